import PyProof.Rows.All
import Wide.All
import OpenK.AllK
import Wide.FinOn
import HandS.ForMost
import HandS.Conv
import HandS.Evl
import HandS.DictComp
import HandS.IsInst
import HandS.Strs
import HandS.SetKeys
import HandS.Walk
import HandS.Wide
import HandS.EndBits
import HandS.Set
import HandS.SetFor
import KE.SortData
import KE.GoesNew
import HandS.TupAny
import HandS.TupLe
import HandS.More
import KE.DataCmp
import KE.DataMinMax
import HandS.Style
import PySem.Challenge.RW_roomsday_k01_houses_and_cases_told
set_option Elab.async false
set_option linter.all false
set_option maxRecDepth 100000
set_option maxHeartbeats 4000000
/-! Go: readings of the hand layer over plain data (PyData): heaps, addresses and frozen parts are hidden once here. -/
namespace Go
open PySem L2
open Evl (Ex)
abbrev D := PyData
def kD : Key → D
  | .inl i => .int i
  | .inr x => .str x
mutual
inductive Is (K : PySem.W.Frag) (I : Hp) : V → D → Prop
  | non : Is K I .non .none
  | bl (b : Bool) : Is K I (.bl b) (.bool b)
  | int (i : Int) : Is K I (.int i) (.int i)
  | str (x : Str) : Is K I (.str x) (.str x)
  | lst {a : Addr} {xs : List V} {ds : List D} : Rd I a (.lst xs) → IsAll K I xs ds → Is K I (.ref a) (.list ds)
  | tup {a : Addr} {xs : List V} {ds : List D} : SqT K I a xs → IsAll K I xs ds → Is K I (.ref a) (.tuple ds)
  | dic {a : Addr} {kvs : List (Key × V)} {ds : List (D × D)} : I a = some (.dK kvs) → IsKV K I kvs ds → Is K I (.ref a) (.dict ds)
inductive IsAll (K : PySem.W.Frag) (I : Hp) : List V → List D → Prop
  | nil : IsAll K I [] []
  | cons {v : V} {vs : List V} {d : D} {ds : List D} : Is K I v d → IsAll K I vs ds → IsAll K I (v :: vs) (d :: ds)
inductive IsKV (K : PySem.W.Frag) (I : Hp) : List (Key × V) → List (D × D) → Prop
  | nil : IsKV K I [] []
  | cons {k : Key} {v : V} {vs : List (Key × V)} {d : D} {ds : List (D × D)} : Is K I v d → IsKV K I vs ds → IsKV K I ((k, v) :: vs) ((kD k, d) :: ds)
end
section
variable {K : PySem.W.Frag} {I J : Hp}
mutual
theorem Is.mono (e : Ex I J) : ∀ {v : V} {d : D}, Is K I v d → Is K J v d
  | _, _, .non => .non
  | _, _, .bl b => .bl b
  | _, _, .int i => .int i
  | _, _, .str x => .str x
  | _, _, .lst h a => .lst (Evl.ex_rd e h) (IsAll.mono e a)
  | _, _, .tup h a => .tup (Evl.ex_t e h) (IsAll.mono e a)
  | _, _, .dic h a => .dic (e _ _ h) (IsKV.mono e a)
theorem IsAll.mono (e : Ex I J) : ∀ {vs : List V} {ds : List D}, IsAll K I vs ds → IsAll K J vs ds
  | _, _, .nil => .nil
  | _, _, .cons h t => .cons (Is.mono e h) (IsAll.mono e t)
theorem IsKV.mono (e : Ex I J) : ∀ {vs : List (Key × V)} {ds : List (D × D)}, IsKV K I vs ds → IsKV K J vs ds
  | _, _, .nil => .nil
  | _, _, .cons h t => .cons (Is.mono e h) (IsKV.mono e t)
end
theorem IsAll.length : ∀ {vs : List V} {ds : List D}, IsAll K I vs ds → vs.length = ds.length
  | _, _, .nil => rfl
  | _, _, .cons _ t => congrArg (· + 1) (IsAll.length t)
theorem IsAll.get : ∀ {vs : List V} {ds : List D} {i : Nat} {d : D}, IsAll K I vs ds → ds[i]? = some d → ∃ v, vs[i]? = some v ∧ Is K I v d
  | _, _, _, _, .nil, e => by simp at e
  | _, _, 0, _, .cons h _, e => by simp at e; subst e; exact ⟨_, rfl, h⟩
  | _, _, i + 1, _, .cons _ t, e => by
    simp at e
    obtain ⟨v, h1, h2⟩ := IsAll.get t e
    exact ⟨v, by simpa using h1, h2⟩
theorem IsAll.getV : ∀ {vs : List V} {ds : List D} {i : Nat} {v : V}, IsAll K I vs ds → vs[i]? = some v → ∃ d, ds[i]? = some d ∧ Is K I v d
  | _, _, _, _, .nil, e => by simp at e
  | _, _, 0, _, .cons h _, e => by simp at e; subst e; exact ⟨_, rfl, h⟩
  | _, _, i + 1, _, .cons _ t, e => by
    simp at e
    obtain ⟨d, h1, h2⟩ := IsAll.getV t e
    exact ⟨d, by simpa using h1, h2⟩
theorem IsAll.append : ∀ {vs ws : List V} {ds es : List D}, IsAll K I vs ds → IsAll K I ws es → IsAll K I (vs ++ ws) (ds ++ es)
  | _, _, _, _, .nil, s => s
  | _, _, _, _, .cons h t, s => .cons h (IsAll.append t s)
theorem IsAll.one {v : V} {d : D} (h : Is K I v d) : IsAll K I [v] [d] := .cons h .nil
theorem IsAll.set {v : V} {d : D} (h : Is K I v d) : ∀ {vs : List V} {ds : List D} (j : Nat), IsAll K I vs ds → IsAll K I (vs.set j v) (ds.set j d)
  | _, _, _, .nil => .nil
  | _, _, 0, .cons _ t => .cons h t
  | _, _, j + 1, .cons q t => .cons q (IsAll.set h j t)
theorem IsAll.take : ∀ {vs : List V} {ds : List D} (n : Nat), IsAll K I vs ds → IsAll K I (vs.take n) (ds.take n)
  | _, _, 0, _ => .nil
  | _, _, _ + 1, .nil => .nil
  | _, _, n + 1, .cons q t => .cons q (IsAll.take n t)
theorem IsAll.drop : ∀ {vs : List V} {ds : List D} (n : Nat), IsAll K I vs ds → IsAll K I (vs.drop n) (ds.drop n)
  | _, _, 0, h => h
  | _, _, _ + 1, .nil => .nil
  | _, _, n + 1, .cons _ t => IsAll.drop n t
end
/-! ### cells: lists that may be written; none: given up -/
abbrev Cell := Option (List D)
inductive Cells (K : PySem.W.Frag) (I H : Hp) : List Addr → List Cell → Prop
  | nil : Cells K I H [] []
  | live {p : Addr} {vs : List V} {ds : List D} {as : List Addr} {g : List Cell} : I p = none → H p = some (.lst vs) → IsAll K I vs ds → p ∉ as → Cells K I H as g → Cells K I H (p :: as) (some ds :: g)
  | dead {p : Addr} {as : List Addr} {g : List Cell} : H p ≠ none → p ∉ as → Cells K I H as g → Cells K I H (p :: as) (none :: g)
/-- what a call leaves: what is frozen stays and is in the heap; all but the cells `as` stays; what is frozen anew is new -/
structure Fr (as : List Addr) (I H I' H' : Hp) : Prop where
  ii : Ex I I'
  ih : Ex I' H'
  fr : ∀ a o, a ∉ as → H a = some o → H' a = some o
  dm : ∀ a, H a ≠ none → H' a ≠ none
  nw : ∀ a, H a ≠ none → I a = none → I' a = none
theorem Fr.refl {as : List Addr} {I H : Hp} (h : Ex I H) : Fr as I H I H := ⟨Ex.refl I, h, fun _ _ _ e => e, fun _ e => e, fun _ _ e => e⟩
theorem Fr.trans {as : List Addr} {I H I1 H1 I2 H2 : Hp} (a : Fr as I H I1 H1) (b : Fr as I1 H1 I2 H2) : Fr as I H I2 H2 :=
  ⟨a.ii.trans b.ii, b.ih, fun p o n e => b.fr p o n (a.fr p o n e), fun p e => b.dm p (a.dm p e), fun p e n => b.nw p (a.dm p e) (a.nw p e n)⟩
theorem Fr.sub {as bs : List Addr} {I H I1 H1 : Hp} (a : Fr as I H I1 H1) (h : ∀ p ∈ as, p ∈ bs) : Fr bs I H I1 H1 :=
  ⟨a.ii, a.ih, fun p o n e => a.fr p o (fun m => n (h p m)) e, a.dm, a.nw⟩
inductive SV where
  | no | d (x : D) | c (j : Nat) | s (ns : List Int)
inductive RelS (K : PySem.W.Frag) (I : Hp) (as : List Addr) : Option V → SV → Prop
  | no {o : Option V} : RelS K I as o .no
  | d {v : V} {x : D} : Is K I v x → RelS K I as (some v) (.d x)
  | c {p : Addr} {j : Nat} : as[j]? = some p → RelS K I as (some (.ref p)) (.c j)
  | s {a : Addr} {ns : List Int} : SqL K I a (ns.map V.int) → RelS K I as (some (.ref a)) (.s ns)
theorem RelS.mono {K : PySem.W.Frag} {I J : Hp} {as bs : List Addr} (e : Ex I J) (h : ∀ (j : Nat) p, as[j]? = some p → bs[j]? = some p) {o : Option V} {s : SV} : RelS K I as o s → RelS K J bs o s
  | .no => .no
  | .d i => .d (i.mono e)
  | .c q => .c (h _ _ q)
  | .s q => .s (Evl.ex_l e q)
theorem Paired.imp {α β : Type} {F G : α → β → Prop} (f : ∀ a b, F a b → G a b) : ∀ {l₁ : List α} {l₂ : List β}, Paired F l₁ l₂ → Paired G l₁ l₂
  | _, _, .nil => .nil
  | _, _, .cons r t => .cons (f _ _ r) (Paired.imp f t)
theorem Paired.get {α β : Type} {F : α → β → Prop} : ∀ {l₁ : List α} {l₂ : List β} {i : Nat} {b : β}, Paired F l₁ l₂ → l₂[i]? = some b → ∃ a, l₁[i]? = some a ∧ F a b
  | _, _, _, _, .nil, e => by simp at e
  | _, _, 0, _, .cons r _, e => by simp at e; subst e; exact ⟨_, rfl, r⟩
  | _, _, i + 1, _, .cons _ t, e => by
    simp at e
    obtain ⟨v, h1, h2⟩ := Paired.get t e
    exact ⟨v, by simpa using h1, h2⟩
theorem Paired.set {α β : Type} {F : α → β → Prop} {a : α} {b : β} (h : F a b) : ∀ {l₁ : List α} {l₂ : List β} (j : Nat), Paired F l₁ l₂ → Paired F (l₁.set j a) (l₂.set j b)
  | _, _, _, .nil => .nil
  | _, _, 0, .cons _ t => .cons h t
  | _, _, j + 1, .cons q t => .cons q (Paired.set h j t)
theorem Paired.app {α β : Type} {F : α → β → Prop} : ∀ {l₁ k₁ : List α} {l₂ k₂ : List β}, Paired F l₁ l₂ → Paired F k₁ k₂ → Paired F (l₁ ++ k₁) (l₂ ++ k₂)
  | _, _, _, _, .nil, s => s
  | _, _, _, _, .cons h t, s => .cons h (Paired.app t s)
theorem Paired.unapp {α β : Type} {F : α → β → Prop} : ∀ {l₁ k₁ : List α} {l₂ k₂ : List β}, l₁.length = l₂.length → Paired F (l₁ ++ k₁) (l₂ ++ k₂) → Paired F l₁ l₂ ∧ Paired F k₁ k₂
  | [], _, [], _, _, h => ⟨.nil, h⟩
  | _ :: l₁, _, _ :: l₂, _, e, .cons q t => by
    obtain ⟨a, b⟩ := Paired.unapp (l₁ := l₁) (l₂ := l₂) (by simpa using e) t
    exact ⟨.cons q a, b⟩
theorem Paired.rev {α β : Type} {F : α → β → Prop} : ∀ {l₁ : List α} {l₂ : List β}, Paired F l₁ l₂ → Paired F l₁.reverse l₂.reverse
  | _, _, .nil => .nil
  | _, _, .cons h t => by
    rw [List.reverse_cons, List.reverse_cons]
    exact Paired.app (Paired.rev t) (.cons h .nil)
theorem ne_mem {r p : Addr} {as : List Addr} (m : r ∈ as) (n : p ∉ as) : r ≠ p := fun y => n (by rw [← y]; exact m)
section
variable {K : PySem.W.Frag} {I I' H H' : Hp} {as : List Addr} {g : List Cell}
theorem Cells.len : ∀ {as : List Addr} {g : List Cell}, Cells K I H as g → as.length = g.length
  | _, _, .nil => rfl
  | _, _, .live _ _ _ _ t => congrArg (· + 1) t.len
  | _, _, .dead _ _ t => congrArg (· + 1) t.len
theorem Cells.nd : ∀ {as : List Addr} {g : List Cell}, Cells K I H as g → as.Nodup
  | _, _, .nil => .nil
  | _, _, .live _ _ _ n t => List.nodup_cons.mpr ⟨n, t.nd⟩
  | _, _, .dead _ n t => List.nodup_cons.mpr ⟨n, t.nd⟩
theorem Cells.in_ : ∀ {as : List Addr} {g : List Cell}, Cells K I H as g → ∀ p ∈ as, H p ≠ none
  | _, _, .nil, _, h => nomatch h
  | _, _, .live _ h2 _ _ t, p, h => by
    rcases List.mem_cons.mp h with e | e
    · subst e; rw [h2]; exact fun z => nomatch z
    · exact t.in_ p e
  | _, _, .dead h2 _ t, p, h => by
    rcases List.mem_cons.mp h with e | e
    · subst e; exact h2
    · exact t.in_ p e
/-- the cells where nothing of them is written -/
theorem Cells.keep (e : Ex I I') (h1 : ∀ p ∈ as, ∀ o, H p = some o → H' p = some o) (h2 : ∀ p ∈ as, I p = none → I' p = none) (c : Cells K I H as g) : Cells K I' H' as g := by
  induction c with
  | nil => exact .nil
  | live a b k n _ ih => exact .live (h2 _ List.mem_cons_self a) (h1 _ List.mem_cons_self _ b) (k.mono e) n (ih (fun p m => h1 p (List.mem_cons_of_mem _ m)) (fun p m => h2 p (List.mem_cons_of_mem _ m)))
  | @dead p as g b n _ ih =>
    refine .dead ?_ n (ih (fun p m => h1 p (List.mem_cons_of_mem _ m)) (fun p m => h2 p (List.mem_cons_of_mem _ m)))
    cases q : H p with
    | none => exact absurd q b
    | some o => rw [h1 p List.mem_cons_self o q]; exact fun z => nomatch z
theorem Cells.at : ∀ {as : List Addr} {g : List Cell} {j : Nat} {p : Addr} {ds : List D}, Cells K I H as g → as[j]? = some p → g[j]? = some (some ds) → I p = none ∧ ∃ vs, H p = some (.lst vs) ∧ IsAll K I vs ds
  | _, _, _, _, _, .nil, e, _ => by simp at e
  | _, _, 0, _, _, .live a b k _ _, e, q => by
    simp at e q
    subst e q
    exact ⟨a, _, b, k⟩
  | _, _, 0, _, _, .dead _ _ _, _, q => by simp at q
  | _, _, j + 1, _, _, .live _ _ _ _ t, e, q => Cells.at t (by simpa using e) (by simpa using q)
  | _, _, j + 1, _, _, .dead _ _ t, e, q => Cells.at t (by simpa using e) (by simpa using q)
/-- one cell is written -/
theorem Cells.put {p : Addr} {vs : List V} {ds : List D} (hi : I p = none) (k : IsAll K I vs ds) : ∀ {as : List Addr} {g : List Cell} {j : Nat}, Cells K I H as g → as[j]? = some p → Cells K I (upd H p (.lst vs)) as (g.set j (some ds))
  | _, _, _, .nil, e => by simp at e
  | _, _, 0, .live a b q n t, e => by
    simp at e
    subst e
    exact .live hi upd_same k n (t.keep (Ex.refl I) (fun r m o z => by rw [upd_ne (ne_mem m n)]; exact z) (fun _ _ z => z))
  | _, _, 0, .dead b n t, e => by
    simp at e
    subst e
    exact .live hi upd_same k n (t.keep (Ex.refl I) (fun r m o z => by rw [upd_ne (ne_mem m n)]; exact z) (fun _ _ z => z))
  | p' :: as, _, j + 1, .live a b q n t, e => by
    have e' : as[j]? = some p := by simpa using e
    have ne : p' ≠ p := (ne_mem (List.mem_of_getElem? e') n).symm
    exact .live a (by rw [upd_ne ne]; exact b) q n (Cells.put hi k t e')
  | p' :: as, _, j + 1, .dead b n t, e => by
    have e' : as[j]? = some p := by simpa using e
    have ne : p' ≠ p := (ne_mem (List.mem_of_getElem? e') n).symm
    exact .dead (by rw [upd_ne ne]; exact b) n (Cells.put hi k t e')
theorem Cells.snoc {p : Addr} {vs : List V} {ds : List D} (hi : I p = none) (hp : H p = some (.lst vs)) (k : IsAll K I vs ds) : ∀ {as : List Addr} {g : List Cell}, p ∉ as → Cells K I H as g → Cells K I H (as ++ [p]) (g ++ [some ds])
  | _, _, _, .nil => .live hi hp k (fun z => nomatch z) .nil
  | _, _, m, .live a b q n t => .live a b q (fun z => by
      rcases List.mem_append.mp z with z | z
      · exact n z
      · rw [List.mem_singleton] at z
        exact m (z ▸ List.mem_cons_self)) (Cells.snoc hi hp k (fun z => m (List.mem_cons_of_mem _ z)) t)
  | _, _, m, .dead b n t => .dead b (fun z => by
      rcases List.mem_append.mp z with z | z
      · exact n z
      · rw [List.mem_singleton] at z
        exact m (z ▸ List.mem_cons_self)) (Cells.snoc hi hp k (fun z => m (List.mem_cons_of_mem _ z)) t)
/-- one cell is frozen, or given up -/
theorem Cells.give {p : Addr} (e : Ex I I') (hI : ∀ a, a ≠ p → I a = none → I' a = none) : ∀ {as : List Addr} {g : List Cell} {j : Nat}, Cells K I H as g → as[j]? = some p → Cells K I' H as (g.set j none)
  | _, _, _, .nil, q => by simp at q
  | _, _, 0, .live a b k n t, q => by
    simp at q
    subst q
    exact .dead (by rw [b]; exact fun z => nomatch z) n (t.keep e (fun _ _ _ z => z) (fun r m z => hI r (ne_mem m n) z))
  | _, _, 0, .dead b n t, q => by
    simp at q
    subst q
    exact .dead b n (t.keep e (fun _ _ _ z => z) (fun r m z => hI r (ne_mem m n) z))
  | p' :: as, _, j + 1, .live a b k n t, q => by
    have e' : as[j]? = some p := by simpa using q
    have ne : p' ≠ p := (ne_mem (List.mem_of_getElem? e') n).symm
    exact .live (hI _ ne a) b (k.mono e) n (Cells.give e hI t e')
  | p' :: as, _, j + 1, .dead b n t, q => by
    have e' : as[j]? = some p := by simpa using q
    exact .dead b n (Cells.give e hI t e')
end
/-! ### the world at a point of a def: ρ its slots, ts what is reckoned and not yet used, g the cells (those lent to it, bs, first) -/
def Rels (K : PySem.W.Frag) (I : Hp) (as : List Addr) : List (Option V) → List SV → Prop := Paired (RelS K I as)
structure Wd (K : PySem.W.Frag) (I0 H0 : Hp) (bs ls : List Addr) (ρ ts : List SV) (g : List Cell) (σ : L2.St) (vs : List V) (I H : Hp) : Prop where
  fr : Fr bs I0 H0 I H
  ce : Cells K I H (bs ++ ls) g
  lo : ∀ p ∈ ls, H0 p = none
  rs : Rels K I (bs ++ ls) σ ρ
  rv : Rels K I (bs ++ ls) (vs.map some) ts
def World (K : PySem.W.Frag) (I0 H0 : Hp) (bs : List Addr) (ρ ts : List SV) (g : List Cell) (σ : L2.St) (vs : List V) (H : Hp) : Prop :=
  ∃ I ls, Wd K I0 H0 bs ls ρ ts g σ vs I H
abbrev PostE := SV → List Cell → Prop
def GoE (K : PySem.W.Frag) (n : Nat) (te : TE) (ρ ts : List SV) (g : List Cell) (post : PostE) : Prop :=
  ∀ I0 H0 bs σ vs H, bs.length = n → World K I0 H0 bs ρ ts g σ vs H → ∀ Q : VK, (∀ v H' s g', World K I0 H0 bs ρ (s :: ts) g' σ (v :: vs) H' → post s g' → Q v H') → te σ H Q
def GoT (K : PySem.W.Frag) (n : Nat) (tt : TT) (ρ ts : List SV) (g : List Cell) (post : Bool → List Cell → Prop) : Prop :=
  ∀ I0 H0 bs σ vs H, bs.length = n → World K I0 H0 bs ρ ts g σ vs H → ∀ Q : Bool → Hp → Prop, (∀ b H' g', World K I0 H0 bs ρ ts g' σ vs H' → post b g' → Q b H') → tt σ H Q
def GoA (K : PySem.W.Frag) (n : Nat) (ta : TA) (ρ ts : List SV) (g : List Cell) (post : List SV → List Cell → Prop) : Prop :=
  ∀ I0 H0 bs σ vs H, bs.length = n → World K I0 H0 bs ρ ts g σ vs H → ∀ Q : List V → Hp → Prop,
    (∀ ws H' ss g', ws.length = ss.length → World K I0 H0 bs ρ (ss.reverse ++ ts) g' σ (ws.reverse ++ vs) H' → post ss g' → Q ws H') → ta σ H Q
/-- an operation on what lies on top -/
def GoR (K : PySem.W.Frag) (n : Nat) (r : List V → Hp → VK → Prop) (ss : List SV) (ρ ts : List SV) (g : List Cell) (post : PostE) : Prop :=
  ∀ I0 H0 bs σ ws vs H, bs.length = n → ws.length = ss.length → World K I0 H0 bs ρ (ss.reverse ++ ts) g σ (ws.reverse ++ vs) H → ∀ Q : VK, (∀ v H' s g', World K I0 H0 bs ρ (s :: ts) g' σ (v :: vs) H' → post s g' → Q v H') → r ws H Q
def un2 (r : R2) : List V → Hp → VK → Prop := fun ws H Q => ∃ x y, ws = [x, y] ∧ r x y H Q
def un1 (r : V → Hp → VK → Prop) : List V → Hp → VK → Prop := fun ws H Q => ∃ x, ws = [x] ∧ r x H Q
structure Ks where
  nx : List SV → List Cell → Prop
  rt : SV → List Cell → Prop
  bk : List SV → List Cell → Prop := fun _ _ => False
  ct : List SV → List Cell → Prop := fun _ _ => False
structure Meets (K : PySem.W.Frag) (I0 H0 : Hp) (bs : List Addr) (κ : Ks) (E : Ends) : Prop where
  nx : ∀ σ H ρ g, World K I0 H0 bs ρ [] g σ [] H → κ.nx ρ g → E.nx σ H
  rt : ∀ v σ H ρ s g, World K I0 H0 bs ρ [s] g σ [v] H → κ.rt s g → E.rt v H
  bk : ∀ σ H ρ g, World K I0 H0 bs ρ [] g σ [] H → κ.bk ρ g → E.bk σ H
  ct : ∀ σ H ρ g, World K I0 H0 bs ρ [] g σ [] H → κ.ct ρ g → E.ct σ H
def GoS (K : PySem.W.Frag) (n : Nat) (t : TS) (ρ : List SV) (g : List Cell) (κ : Ks) : Prop :=
  ∀ I0 H0 bs σ H E, bs.length = n → World K I0 H0 bs ρ [] g σ [] H → Meets K I0 H0 bs κ E → t E σ H
end Go
namespace Go
open PySem L2
open Evl (Ex)
section
variable {K : PySem.W.Frag} {I0 H0 I I' H H' : Hp} {bs ls as : List Addr} {ρ ts : List SV} {g : List Cell} {σ : L2.St} {vs : List V} {n : Nat}
theorem Rels.mono (e : Ex I I') {o : List (Option V)} {ss : List SV} (r : Rels K I as o ss) : Rels K I' as o ss := Paired.imp (fun _ _ h => h.mono e fun _ _ q => q) r
/-- nothing of what stood is written -/
theorem Wd.step (w : Wd K I0 H0 bs ls ρ ts g σ vs I H) (f : Fr [] I H I' H') : Wd K I0 H0 bs ls ρ ts g σ vs I' H' where
  fr := w.fr.trans (f.sub fun _ z => nomatch z)
  ce := w.ce.keep f.ii (fun p _ o e => f.fr p o (fun z => nomatch z) e) (fun p m e => f.nw p (w.ce.in_ p m) e)
  lo := w.lo
  rs := w.rs.mono f.ii
  rv := w.rv.mono f.ii
theorem Wd.push {v : V} {s : SV} (w : Wd K I0 H0 bs ls ρ ts g σ vs I H) (r : RelS K I (bs ++ ls) (some v) s) : Wd K I0 H0 bs ls ρ (s :: ts) g σ (v :: vs) I H := ⟨w.fr, w.ce, w.lo, w.rs, .cons r w.rv⟩
theorem Wd.pop {v : V} {s : SV} (w : Wd K I0 H0 bs ls ρ (s :: ts) g σ (v :: vs) I H) : Wd K I0 H0 bs ls ρ ts g σ vs I H ∧ RelS K I (bs ++ ls) (some v) s := by
  obtain ⟨a, b, c, d, e⟩ := w
  cases e with
  | cons r t => exact ⟨⟨a, b, c, d, t⟩, r⟩
theorem Wd.pops {ws : List V} {ss : List SV} (hl : ws.length = ss.length) (w : Wd K I0 H0 bs ls ρ (ss.reverse ++ ts) g σ (ws.reverse ++ vs) I H) : Wd K I0 H0 bs ls ρ ts g σ vs I H ∧ Rels K I (bs ++ ls) (ws.map some) ss := by
  obtain ⟨a, b, c, d, e⟩ := w
  unfold Rels at e
  rw [List.map_append] at e
  obtain ⟨e1, e2⟩ := Paired.unapp (by rw [List.length_map, List.length_reverse, List.length_reverse]; exact hl) e
  refine ⟨⟨a, b, c, d, e2⟩, ?_⟩
  have h := Paired.rev e1
  rw [← List.map_reverse, List.reverse_reverse, List.reverse_reverse] at h
  exact h
theorem fr_new {o : HO} {p : Addr} (h : Ex I H) (hp : H p = none) : Fr [] I H (upd I p o) (upd H p o) := by
  have ip : I p = none := Evl.fresh_back h hp
  refine ⟨Ex.new ip, fun a u e => ?_, fun a u _ e => ?_, fun a e => ?_, fun a e q => ?_⟩
  · by_cases z : a = p
    · subst z; rw [upd_same] at e ⊢; exact e
    · rw [upd_ne z] at e ⊢; exact h a u e
  · rw [upd_ne (ne_of_none e hp)]; exact e
  · have z : a ≠ p := fun y => e (y ▸ hp)
    rw [upd_ne z]; exact e
  · have z : a ≠ p := fun y => e (y ▸ hp)
    rw [upd_ne z]; exact q
/-! ### operations on data: nothing is written -/
def OpD (K : PySem.W.Frag) (r : List V → Hp → VK → Prop) (ds : List D) (post : D → Prop) : Prop :=
  ∀ I H ws, Ex I H → IsAll K I ws ds → ∀ Q : VK, (∀ v I' H' d, Fr [] I H I' H' → Is K I' v d → post d → Q v H') → r ws H Q
def GoD (K : PySem.W.Frag) (n : Nat) (te : TE) (ρ ts : List SV) (g : List Cell) (post : D → List Cell → Prop) : Prop := GoE K n te ρ ts g fun s g' => ∃ d, s = .d d ∧ post d g'
theorem rels_d : ∀ {ws : List V} {ds : List D}, Rels K I as (ws.map some) (ds.map SV.d) → IsAll K I ws ds
  | [], [], _ => .nil
  | _ :: _, _ :: _, .cons r t => by
    cases r with
    | d h => exact .cons h (rels_d t)
theorem gr_op {r : List V → Hp → VK → Prop} {ds : List D} {post : PostE} (h : OpD K r ds fun d => post (.d d) g) : GoR K n r (ds.map SV.d) ρ ts g post := by
  intro I0 H0 bs σ ws vs H hn hl ⟨I, ls, w⟩ Q q
  obtain ⟨w1, r1⟩ := w.pops hl
  exact h I H ws w.fr.ih (rels_d r1) Q fun v I' H' d f i p => q v H' (.d d) g ⟨I', ls, (w1.step f).push (.d i)⟩ p
theorem GoE.imp {te : TE} {P P' : PostE} (h : GoE K n te ρ ts g P) (k : ∀ s g', P s g' → P' s g') : GoE K n te ρ ts g P' :=
  fun I0 H0 bs σ vs H hn w Q q => h I0 H0 bs σ vs H hn w Q fun v H' s g' w' p => q v H' s g' w' (k s g' p)
theorem GoD.imp {te : TE} {P P' : D → List Cell → Prop} (h : GoD K n te ρ ts g P) (k : ∀ d g', P d g' → P' d g') : GoD K n te ρ ts g P' :=
  GoE.imp h fun s g' ⟨d, e, p⟩ => ⟨d, e, k d g' p⟩
theorem GoT.imp {tt : TT} {P P' : Bool → List Cell → Prop} (h : GoT K n tt ρ ts g P) (k : ∀ b g', P b g' → P' b g') : GoT K n tt ρ ts g P' :=
  fun I0 H0 bs σ vs H hn w Q q => h I0 H0 bs σ vs H hn w Q fun b H' g' w' p => q b H' g' w' (k b g' p)
/-- a reading through another one -/
theorem GoE.of {te te' : TE} {P : PostE} (h : GoE K n te ρ ts g P) (k : ∀ σ H Q, te σ H Q → te' σ H Q) : GoE K n te' ρ ts g P := fun I0 H0 bs σ vs H hn w Q q => k σ H Q (h I0 H0 bs σ vs H hn w Q q)
/-! ### names, constants -/
theorem ge_var {i : Nat} {s : SV} {post : PostE} (h : ρ[i]? = some s) (hs : s ≠ .no) (p : post s g) : GoE K n (tVar i) ρ ts g post := by
  intro I0 H0 bs σ vs H hn ⟨I, ls, w⟩ Q q
  obtain ⟨o, e, r⟩ := Paired.get w.rs h
  cases r with
  | no => exact absurd rfl hs
  | d i => exact ⟨_, e, q _ H _ g ⟨I, ls, w.push (.d i)⟩ p⟩
  | c i => exact ⟨_, e, q _ H _ g ⟨I, ls, w.push (.c i)⟩ p⟩
  | s i => exact ⟨_, e, q _ H _ g ⟨I, ls, w.push (.s i)⟩ p⟩
theorem gd_var {i : Nat} {d : D} {post : D → List Cell → Prop} (h : ρ[i]? = some (.d d)) (p : post d g) : GoD K n (tVar i) ρ ts g post := ge_var h (fun z => nomatch z) ⟨d, rfl, p⟩
theorem gd_c {v : V} {d : D} {post : D → List Cell → Prop} (h : ∀ I, Is K I v d) (p : post d g) : GoD K n (tC v) ρ ts g post :=
  fun I0 H0 bs σ vs H hn ⟨I, ls, w⟩ Q q => q v H (.d d) g ⟨I, ls, w.push (.d (h I))⟩ ⟨d, rfl, p⟩
theorem gd_int {i : Int} {post : D → List Cell → Prop} (p : post (.int i) g) : GoD K n (tC (.int i)) ρ ts g post := gd_c (fun _ => .int i) p
theorem gd_str {i : Str} {post : D → List Cell → Prop} (p : post (.str i) g) : GoD K n (tC (.str i)) ρ ts g post := gd_c (fun _ => .str i) p
theorem gd_bl {i : Bool} {post : D → List Cell → Prop} (p : post (.bool i) g) : GoD K n (tC (.bl i)) ρ ts g post := gd_c (fun _ => .bl i) p
theorem gd_non {post : D → List Cell → Prop} (p : post .none g) : GoD K n (tC .non) ρ ts g post := gd_c (fun _ => .non) p
/-! ### two operands, one operand -/
theorem ge_op {r : R2} {ta tb : TE} {post : PostE} (h : GoE K n ta ρ ts g fun s1 g1 => GoE K n tb ρ (s1 :: ts) g1 fun s2 g2 => GoR K n (un2 r) [s1, s2] ρ ts g2 post) : GoE K n (tOp r ta tb) ρ ts g post := by
  intro I0 H0 bs σ vs H hn w Q q
  refine h I0 H0 bs σ vs H hn w _ fun v1 H1 s1 g1 w1 p1 => ?_
  refine p1 I0 H0 bs σ _ H1 hn w1 _ fun v2 H2 s2 g2 w2 p2 => ?_
  obtain ⟨x, y, e, k⟩ := p2 I0 H0 bs σ [v1, v2] vs H2 hn rfl w2 Q q
  cases e
  exact k
theorem gd_op {r : R2} {ta tb : TE} {post : D → List Cell → Prop} (h : GoD K n ta ρ ts g fun d1 g1 => GoD K n tb ρ (.d d1 :: ts) g1 fun d2 g2 => OpD K (un2 r) [d1, d2] fun d => post d g2) : GoD K n (tOp r ta tb) ρ ts g post :=
  ge_op (GoE.imp h fun s1 g1 ⟨d1, e1, h1⟩ => by
    subst e1
    exact GoE.imp h1 fun s2 g2 ⟨d2, e2, h2⟩ => by
      subst e2
      exact gr_op (ds := [d1, d2]) fun I H ws e i Q q => h2 I H ws e i Q fun v I' H' d f i p => q v I' H' d f i ⟨d, rfl, p⟩)
theorem gd_un {r : V → Hp → VK → Prop} {ta : TE} {post : D → List Cell → Prop} (h : GoD K n ta ρ ts g fun d1 g1 => OpD K (un1 r) [d1] fun d => post d g1) : GoD K n (tUn r ta) ρ ts g post := by
  intro I0 H0 bs σ vs H hn w Q q
  refine h I0 H0 bs σ vs H hn w _ fun v1 H1 s1 g1 ⟨I, ls, w1⟩ ⟨d1, e1, p1⟩ => ?_
  subst e1
  obtain ⟨w2, r⟩ := w1.pop
  cases r with
  | d i =>
    obtain ⟨x, e, k⟩ := p1 I H1 [v1] w1.fr.ih (.one i) Q fun v I' H' d f i p => q v H' (.d d) g1 ⟨I', ls, (w2.step f).push (.d i)⟩ ⟨d, rfl, p⟩
    cases e
    exact k
theorem opd_I {C : Int → Int → Prop} {f : Int → Int → V} {i j : Int} {d : D} {post : D → Prop} (hv : ∀ I, Is K I (f i j) d) (hc : C i j) (p : post d) : OpD K (un2 (rI C f)) [.int i, .int j] post := by
  intro I H ws e h Q q
  cases h with | cons h1 t => cases t with | cons h2 t => cases t; cases h1; cases h2; exact ⟨_, _, rfl, i, j, rfl, rfl, hc, q _ I H d (Fr.refl e) (hv I) p⟩
theorem opd_I0 {f : Int → Int → V} {i j : Int} {d : D} {post : D → Prop} (hv : ∀ I, Is K I (f i j) d) (p : post d) : OpD K (un2 (rI0 f)) [.int i, .int j] post := by
  intro I H ws e h Q q
  cases h with | cons h1 t => cases t with | cons h2 t => cases t; cases h1; cases h2; exact ⟨_, _, rfl, i, j, rfl, rfl, q _ I H d (Fr.refl e) (hv I) p⟩
/-! ### data without dicts as the library's -/
mutual
theorem Is.dp {d : D} (c : d.canLay0 = true) (e : Ex I H) : ∀ {v : V}, Is K I v d → Dp K H v d
  | _, .non => .non
  | _, .bl b => .bl b
  | _, .int i => .int i
  | _, .str x => .str x
  | _, .lst h a => .lst (.inl (Evl.ex_rd e h)) (IsAll.dp (by unfold PyData.canLay0 at c; exact c) e a)
  | _, .tup h a => .tup (Evl.ex_t e h) (IsAll.dp (by unfold PyData.canLay0 at c; exact c) e a)
  | _, .dic _ _ => by unfold PyData.canLay0 at c; cases c
theorem IsAll.dp {ds : List D} (c : PyData.canLayAll0 ds = true) (e : Ex I H) : ∀ {vs : List V}, IsAll K I vs ds → DpAll K H vs ds
  | _, .nil => .nil
  | _, .cons h t => by
    unfold PyData.canLayAll0 at c
    rw [Bool.and_eq_true] at c
    exact .cons (Is.dp c.1 e h) (IsAll.dp c.2 e t)
end
end
end Go
namespace Go
open PySem L2
open Evl (Ex)
section
variable {K : PySem.W.Frag} {I0 H0 I I' H H' : Hp} {bs ls as : List Addr} {ρ ts : List SV} {g : List Cell} {σ : L2.St} {vs : List V} {n : Nat}
/-! ### tests -/
theorem gt_test {te : TE} {post : Bool → List Cell → Prop} (h : GoD K n te ρ ts g fun d g' => ∃ b, d = .bool b ∧ post b g') : GoT K n (tTest te) ρ ts g post := by
  intro I0 H0 bs σ vs H hn w Q q
  refine h I0 H0 bs σ vs H hn w _ fun v H1 s g1 ⟨I, ls, w1⟩ ⟨d, e, b, e2, p⟩ => ?_
  subst e e2
  obtain ⟨w2, r⟩ := w1.pop
  cases r with | d i => cases i; exact ⟨b, rfl, q b H1 g1 ⟨I, ls, w2⟩ p⟩
theorem gt_B {te : TE} {post : Bool → List Cell → Prop} (h : GoD K n te ρ ts g fun d g' => ∃ b, d = .bool b ∧ post b g') : GoT K n (tB te) ρ ts g post := gt_test h
theorem gt_and {t u : TT} {post : Bool → List Cell → Prop} (h : GoT K n t ρ ts g fun b g1 => (b = true → GoT K n u ρ ts g1 post) ∧ (b = false → post false g1)) : GoT K n (tAnd t u) ρ ts g post := by
  intro I0 H0 bs σ vs H hn w Q q
  refine h I0 H0 bs σ vs H hn w _ fun b H1 g1 w1 ⟨p, p'⟩ => ?_
  cases b with
  | true => exact p rfl I0 H0 bs σ vs H1 hn w1 Q q
  | false => exact q false H1 g1 w1 (p' rfl)
theorem gt_or {t u : TT} {post : Bool → List Cell → Prop} (h : GoT K n t ρ ts g fun b g1 => (b = false → GoT K n u ρ ts g1 post) ∧ (b = true → post true g1)) : GoT K n (tOr t u) ρ ts g post := by
  intro I0 H0 bs σ vs H hn w Q q
  refine h I0 H0 bs σ vs H hn w _ fun b H1 g1 w1 ⟨p, p'⟩ => ?_
  cases b with
  | true => exact q true H1 g1 w1 (p' rfl)
  | false => exact p rfl I0 H0 bs σ vs H1 hn w1 Q q
theorem gt_not {t : TT} {post : Bool → List Cell → Prop} (h : GoT K n t ρ ts g fun b g1 => post (!b) g1) : GoT K n (tNot t) ρ ts g post :=
  fun I0 H0 bs σ vs H hn w Q q => h I0 H0 bs σ vs H hn w _ fun b H1 g1 w1 p => q (!b) H1 g1 w1 p
theorem gt_yes {post : Bool → List Cell → Prop} (h : post true g) : GoT K n tYes ρ ts g post := fun I0 H0 bs σ vs H hn w Q q => q true H g w h
theorem gd_and {ta tb : TE} {post : D → List Cell → Prop} (h : GoD K n ta ρ ts g fun d g1 => ∃ b, d = .bool b ∧ (b = true → GoD K n tb ρ ts g1 post) ∧ (b = false → post (.bool false) g1)) : GoD K n (tAndV ta tb) ρ ts g post := by
  intro I0 H0 bs σ vs H hn w Q q
  refine h I0 H0 bs σ vs H hn w _ fun v H1 s g1 ⟨I, ls, w1⟩ ⟨d, e, b, e2, p, p'⟩ => ?_
  subst e e2
  obtain ⟨w2, r⟩ := w1.pop
  cases r with
  | d i =>
    cases i
    refine ⟨b, rfl, ?_⟩
    cases b with
    | true => rw [if_pos rfl]; exact p rfl I0 H0 bs σ vs H1 hn ⟨I, ls, w2⟩ Q q
    | false => rw [if_neg Bool.false_ne_true]; exact q _ H1 _ g1 ⟨I, ls, w2.push (.d (.bl false))⟩ ⟨_, rfl, p' rfl⟩
theorem gd_or {ta tb : TE} {post : D → List Cell → Prop} (h : GoD K n ta ρ ts g fun d g1 => ∃ b, d = .bool b ∧ (b = false → GoD K n tb ρ ts g1 post) ∧ (b = true → post (.bool true) g1)) : GoD K n (tOrV ta tb) ρ ts g post := by
  intro I0 H0 bs σ vs H hn w Q q
  refine h I0 H0 bs σ vs H hn w _ fun v H1 s g1 ⟨I, ls, w1⟩ ⟨d, e, b, e2, p, p'⟩ => ?_
  subst e e2
  obtain ⟨w2, r⟩ := w1.pop
  cases r with
  | d i =>
    cases i
    refine ⟨b, rfl, ?_⟩
    cases b with
    | false => rw [if_neg Bool.false_ne_true]; exact p rfl I0 H0 bs σ vs H1 hn ⟨I, ls, w2⟩ Q q
    | true => rw [if_pos rfl]; exact q _ H1 _ g1 ⟨I, ls, w2.push (.d (.bl true))⟩ ⟨_, rfl, p' rfl⟩
theorem gd_not {ta : TE} {post : D → List Cell → Prop} (h : GoD K n ta ρ ts g fun d g1 => ∃ b, d = .bool b ∧ post (.bool (!b)) g1) : GoD K n (tNotV ta) ρ ts g post := by
  intro I0 H0 bs σ vs H hn w Q q
  refine h I0 H0 bs σ vs H hn w _ fun v H1 s g1 ⟨I, ls, w1⟩ ⟨d, e, b, e2, p⟩ => ?_
  subst e e2
  obtain ⟨w2, r⟩ := w1.pop
  cases r with
  | d i => cases i; exact ⟨b, rfl, q _ H1 _ g1 ⟨I, ls, w2.push (.d (.bl _))⟩ ⟨_, rfl, p⟩⟩
theorem gd_if {t : TT} {ta tb : TE} {post : PostE} (h : GoT K n t ρ ts g fun b g1 => (b = true → GoE K n ta ρ ts g1 post) ∧ (b = false → GoE K n tb ρ ts g1 post)) : GoE K n (tIf t ta tb) ρ ts g post := by
  intro I0 H0 bs σ vs H hn w Q q
  refine h I0 H0 bs σ vs H hn w _ fun b H1 g1 w1 ⟨p, p'⟩ => ?_
  cases b with
  | true => rw [if_pos rfl]; exact p rfl I0 H0 bs σ vs H1 hn w1 Q q
  | false => rw [if_neg Bool.false_ne_true]; exact p' rfl I0 H0 bs σ vs H1 hn w1 Q q
/-! ### argument lists -/
def GoDs (K : PySem.W.Frag) (n : Nat) (ta : TA) (ρ ts : List SV) (g : List Cell) (post : List D → List Cell → Prop) : Prop := GoA K n ta ρ ts g fun ss g' => ∃ ds, ss = ds.map SV.d ∧ post ds g'
theorem ga_nil {post : List SV → List Cell → Prop} (p : post [] g) : GoA K n tNil ρ ts g post := fun I0 H0 bs σ vs H hn w Q q => q [] H [] g rfl w p
theorem ga_cons {ta : TE} {tr : TA} {post : List SV → List Cell → Prop} (h : GoE K n ta ρ ts g fun s g1 => GoA K n tr ρ (s :: ts) g1 fun ss g2 => post (s :: ss) g2) : GoA K n (tCons ta tr) ρ ts g post := by
  intro I0 H0 bs σ vs H hn w Q q
  refine h I0 H0 bs σ vs H hn w _ fun v H1 s g1 w1 p1 => p1 I0 H0 bs σ _ H1 hn w1 _ fun ws H2 ss g2 hl w2 p2 => ?_
  refine q (v :: ws) H2 (s :: ss) g2 (by rw [List.length_cons, List.length_cons, hl]) ?_ p2
  rw [List.reverse_cons, List.reverse_cons, List.append_assoc, List.append_assoc]
  exact w2
theorem GoA.imp {ta : TA} {P P' : List SV → List Cell → Prop} (h : GoA K n ta ρ ts g P) (k : ∀ s g', P s g' → P' s g') : GoA K n ta ρ ts g P' :=
  fun I0 H0 bs σ vs H hn w Q q => h I0 H0 bs σ vs H hn w Q fun v H' s g' hl w' p => q v H' s g' hl w' (k s g' p)
theorem gs_nil {post : List D → List Cell → Prop} (p : post [] g) : GoDs K n tNil ρ ts g post := ga_nil ⟨[], rfl, p⟩
theorem gs_cons {ta : TE} {tr : TA} {post : List D → List Cell → Prop} (h : GoD K n ta ρ ts g fun d g1 => GoDs K n tr ρ (.d d :: ts) g1 fun ds g2 => post (d :: ds) g2) : GoDs K n (tCons ta tr) ρ ts g post :=
  ga_cons (GoE.imp h fun s g1 ⟨d, e, h1⟩ => by
    subst e
    exact GoA.imp h1 fun ss g2 ⟨ds, e2, p⟩ => ⟨d :: ds, by rw [e2]; rfl, p⟩)
/-- what is made of data on top, nothing written -/
theorem ge_mk {ta : TA} {te : TE} {r : List V → Hp → VK → Prop} {post : D → List Cell → Prop} (he : ∀ σ H Q, (ta σ H fun vs H1 => r vs H1 Q) → te σ H Q) (h : GoDs K n ta ρ ts g fun ds g1 => OpD K r ds fun d => post d g1) : GoD K n te ρ ts g post := by
  intro I0 H0 bs σ vs H hn w Q q
  refine he σ H Q (h I0 H0 bs σ vs H hn w _ fun ws H1 ss g1 hl w1 ⟨ds, e, p⟩ => ?_)
  subst e
  refine gr_op (n := n) (g := g1) (ρ := ρ) (ts := ts) (post := fun s g' => ∃ d, s = .d d ∧ post d g') (ds := ds) (fun I H ws e i Q q => p I H ws e i Q fun v I' H' d f i p => q v I' H' d f i ⟨d, rfl, p⟩) I0 H0 bs σ ws vs H1 hn hl w1 Q q
theorem gd_cb {ta : TA} {r : List V → Hp → VK → Prop} {post : D → List Cell → Prop} (h : GoDs K n ta ρ ts g fun ds g1 => OpD K r ds fun d => post d g1) : GoD K n (tCB r ta) ρ ts g post := ge_mk (fun _ _ _ h => h) h
theorem gd_tup {ta : TA} {post : D → List Cell → Prop} (h : GoDs K n ta ρ ts g fun ds g1 => ds.length ≤ 100000 ∧ post (.tuple ds) g1) : GoD K n (tTup ta) ρ ts g post :=
  ge_mk (r := fun xs H Q => xs.length ≤ sizeLine ∧ ∀ p, H p = none → Q (.ref p) (upd H p (.tup xs))) (fun _ _ _ h => h) (GoA.imp h fun ss g' ⟨ds, e, hz, p⟩ => ⟨ds, e, fun I H ws ex i Q q => ⟨by
    rw [i.length]; exact Evl.sz_of hz, fun a ha => q _ (upd I a (.tup ws)) _ (.tuple ds) (fr_new ex ha) (.tup (.inl (.inl upd_same)) (i.mono (fr_new ex ha).ii)) p⟩⟩)
theorem gd_lst {ta : TA} {post : D → List Cell → Prop} (h : GoDs K n ta ρ ts g fun ds g1 => ds.length ≤ 100000 ∧ post (.list ds) g1) : GoD K n (tLst ta) ρ ts g post :=
  ge_mk (r := fun xs H Q => xs.length ≤ sizeLine ∧ ∀ p, H p = none → Q (.ref p) (upd H p (.lst xs))) (fun _ _ _ h => h) (GoA.imp h fun ss g' ⟨ds, e, hz, p⟩ => ⟨ds, e, fun I H ws ex i Q q => ⟨by
    rw [i.length]; exact Evl.sz_of hz, fun a ha => q _ (upd I a (.lst ws)) _ (.list ds) (fr_new ex ha) (.lst (.inl upd_same) (i.mono (fr_new ex ha).ii)) p⟩⟩)
/-- a list of one's own, to be written -/
theorem ge_lstC {ta : TA} {post : PostE} (h : GoDs K n ta ρ ts g fun ds g1 => ds.length ≤ 100000 ∧ post (.c g1.length) (g1 ++ [some ds])) : GoE K n (tLst ta) ρ ts g post := by
  intro I0 H0 bs σ vs H hn w Q q
  refine h I0 H0 bs σ vs H hn w _ fun ws H1 ss g1 hl ⟨I, ls, w1⟩ ⟨ds, e, hz, p⟩ => ?_
  subst e
  obtain ⟨w2, r2⟩ := w1.pops hl
  have i := rels_d r2
  refine ⟨by rw [i.length]; exact Evl.sz_of hz, fun a ha => ?_⟩
  have ia : I a = none := Evl.fresh_back w2.fr.ih ha
  have h0a : H0 a = none := by
    cases z : H0 a with
    | none => rfl
    | some o => exact absurd ha (w2.fr.dm a (by rw [z]; exact fun y => nomatch y))
  have na : a ∉ bs ++ ls := fun m => w2.ce.in_ a m ha
  have hj : (bs ++ (ls ++ [a]))[g1.length]? = some a := by
    rw [← List.append_assoc, ← w2.ce.len, List.getElem?_append_right (Nat.le_refl _), Nat.sub_self]
    rfl
  have up : ∀ (j : Nat) p, (bs ++ ls)[j]? = some p → (bs ++ (ls ++ [a]))[j]? = some p := fun j p e => by
    rw [← List.append_assoc, List.getElem?_append_left (List.getElem?_eq_some_iff.mp e).1]
    exact e
  have hx : ∀ b o, H1 b = some o → upd H1 a (.lst ws) b = some o := fun b o e => by
    rw [upd_ne (ne_of_none e ha)]; exact e
  refine q (.ref a) _ (.c g1.length) _ ⟨I, ls ++ [a], ⟨⟨w2.fr.ii, fun b o e => hx b o (w2.fr.ih b o e), fun b o m e => hx b o (w2.fr.fr b o m e), fun b e => ?_, w2.fr.nw⟩, ?_, fun b m => ?_, Paired.imp (fun _ _ r => r.mono (Ex.refl I) up) w2.rs, .cons (.c hj) (Paired.imp (fun _ _ r => r.mono (Ex.refl I) up) w2.rv)⟩⟩ p
  · cases z : H1 b with
    | none => exact absurd z (w2.fr.dm b e)
    | some o => rw [hx b o z]; exact fun y => nomatch y
  · rw [← List.append_assoc]
    exact Cells.snoc ia upd_same i na (w2.ce.keep (Ex.refl I) (fun b _ o e => hx b o e) fun _ _ e => e)
  · rcases List.mem_append.mp m with m | m
    · exact w2.lo b m
    · rw [List.mem_singleton] at m
      rw [m]; exact h0a
/-! ### calls of defs -/
abbrev RSpec := List SV → List Cell → (D → List Cell → Prop) → Prop
def spOf (K : PySem.W.Frag) (R : RSpec) : Sp := fun ws H Q _ => ∃ I as ss g post, Ex I H ∧ Cells K I H as g ∧ Rels K I as (ws.map some) ss ∧ R ss g post ∧
  ∀ v I' H' d g', Fr as I H I' H' → Cells K I' H' as g' → Is K I' v d → post d g' → Q v H'
theorem rels_as {bs : List Addr} : ∀ {ws : List (Option V)} {ds : List D}, Rels K I as ws (ds.map SV.d) → Rels K I bs ws (ds.map SV.d)
  | _, [], .nil => .nil
  | _, _ :: _, .cons r t => .cons (by cases r with | d h => exact .d h) (rels_as t)
theorem gd_call {R : RSpec} {E : XK} {ta : TA} {post : D → List Cell → Prop} (h : GoDs K n ta ρ ts g fun ds g1 => R (ds.map SV.d) [] fun d _ => post d g1) : GoD K n (tCall (spOf K R) [] E ta) ρ ts g post := by
  intro I0 H0 bs σ vs H hn w Q q
  refine h I0 H0 bs σ vs H hn w _ fun ws H1 ss g1 hl ⟨I, ls, w1⟩ ⟨ds, e, p⟩ => ?_
  subst e
  obtain ⟨w2, r2⟩ := w1.pops hl
  rw [List.append_nil]
  exact ⟨I, [], ds.map SV.d, [], _, w2.fr.ih, .nil, rels_as r2, p, fun v I' H' d g' f c i p => q v H' (.d d) g1 ⟨I', ls, (w2.step f).push (.d i)⟩ ⟨d, rfl, p⟩⟩
/-- the call of a def without parameters of data that is lent one cell, its first argument -/
theorem cells_one {p : Addr} {ds : List D} {as : List Addr} {j : Nat} (c : Cells K I H as g) (h1 : as[j]? = some p) (h2 : g[j]? = some (some ds)) : Cells K I H [p] [some ds] := by
  obtain ⟨a, vs, b, i⟩ := c.at h1 h2
  exact .live a b i (fun z => nomatch z) .nil
theorem cells_back {p : Addr} {ds : List D} (f : Fr [p] I H I' H') (one : Cells K I' H' [p] [some ds]) : ∀ {as : List Addr} {g : List Cell} {j : Nat}, Cells K I H as g → as[j]? = some p → Cells K I' H' as (g.set j (some ds))
  | _, _, _, .nil, e => by simp at e
  | _, _, 0, .live a b i nn t, e => by
    simp at e
    subst e
    cases one with
    | live a' b' i' _ _ => exact .live a' b' i' nn (t.keep f.ii (fun r m o z => f.fr r o (fun y => by rw [List.mem_singleton] at y; exact ne_mem m nn y) z) (fun r m z => f.nw r (t.in_ r m) z))
  | _, _, 0, .dead b nn t, e => by
    simp at e
    subst e
    cases one with
    | live a' b' i' _ _ => exact .live a' b' i' nn (t.keep f.ii (fun r m o z => f.fr r o (fun y => by rw [List.mem_singleton] at y; exact ne_mem m nn y) z) (fun r m z => f.nw r (t.in_ r m) z))
  | p' :: as, _, j + 1, .live a b i nn t, e => by
    have e' : as[j]? = some p := by simpa using e
    have ne : p' ≠ p := (ne_mem (List.mem_of_getElem? e') nn).symm
    exact .live (f.nw p' (by rw [b]; exact fun y => nomatch y) a) (f.fr p' _ (fun y => by rw [List.mem_singleton] at y; exact ne y) b) (i.mono f.ii) nn (cells_back f one t e')
  | p' :: as, _, j + 1, .dead b nn t, e => by
    have e' : as[j]? = some p := by simpa using e
    exact .dead (f.dm p' b) nn (cells_back f one t e')
theorem gd_callB {R : RSpec} {E : XK} {ta : TA} {post : D → List Cell → Prop}
    (h : GoA K n ta ρ ts g fun ss g1 => ∃ (j : Nat) (ds b : List D), ss = .c j :: ds.map SV.d ∧ g1[j]? = some (some b) ∧ R (.c 0 :: ds.map SV.d) [some b] fun d gb => ∃ b', gb = [some b'] ∧ post d (g1.set j (some b'))) : GoD K n (tCall (spOf K R) [] E ta) ρ ts g post := by
  intro I0 H0 bs σ vs H hn w Q q
  refine h I0 H0 bs σ vs H hn w _ fun ws H1 ss g1 hl ⟨I, ls, w1⟩ ⟨j, ds, b, e, hj, pR⟩ => ?_
  subst e
  obtain ⟨w2, r2⟩ := w1.pops hl
  rw [List.append_nil]
  cases ws with
  | nil => cases hl
  | cons v0 ws =>
    cases r2 with
    | cons r0 rt =>
      cases r0 with
      | @c p _ hp =>
        refine ⟨I, [p], .c 0 :: ds.map SV.d, [some b], _, w2.fr.ih, cells_one w2.ce hp hj,   .cons (.c rfl) (rels_as rt), pR, fun v I' H' d g' f c i ⟨b', e, pp⟩ => ?_⟩
        subst e
        have hm : p ∈ bs ++ ls := List.mem_of_getElem? hp
        refine q v H' (.d d) _ ⟨I', ls, ?_⟩ ⟨d, rfl, pp⟩
        refine ⟨⟨w2.fr.ii.trans f.ii, f.ih, fun a o na e => f.fr a o (fun y => ?_) (w2.fr.fr a o na e), fun a e => f.dm a (w2.fr.dm a e), fun a e z => f.nw a (w2.fr.dm a e) (w2.fr.nw a e z)⟩, cells_back f c w2.ce hp, w2.lo, w2.rs.mono f.ii, .cons (.d i) (w2.rv.mono f.ii)⟩
        rw [List.mem_singleton] at y
        subst y
        rcases List.mem_append.mp hm with m | m
        · exact na m
        · rw [w2.lo a m] at e; cases e
end
end Go
namespace Go
open PySem L2
open Evl (Ex)
section
variable {K : PySem.W.Frag} {I0 H0 I I' H H' : Hp} {bs ls as : List Addr} {ρ ts : List SV} {g : List Cell} {σ : L2.St} {vs : List V} {n : Nat}
theorem rels_of : ∀ {ws : List V} {ds : List D}, IsAll K I ws ds → Rels K I as (ws.map some) (ds.map SV.d)
  | _, _, .nil => .nil
  | _, _, .cons h t => .cons (.d h) (rels_of t)
/-! ### targets -/
def GoG (K : PySem.W.Frag) (n : Nat) (gt : TG) (d : D) (ρ ts : List SV) (g : List Cell) (post : List SV → Prop) : Prop :=
  ∀ I0 H0 bs σ vs v H, bs.length = n → World K I0 H0 bs ρ (.d d :: ts) g σ (v :: vs) H → ∀ Q : L2.St → Hp → Prop, (∀ σ' ρ' H', World K I0 H0 bs ρ' ts g σ' vs H' → post ρ' → Q σ' H') → gt v σ H Q
def GoGs (K : PySem.W.Frag) (n : Nat) (gt : TGs) (ds : List D) (ρ ts : List SV) (g : List Cell) (post : List SV → Prop) : Prop :=
  ∀ I0 H0 bs σ vs xs H, bs.length = n → xs.length = ds.length → World K I0 H0 bs ρ (ds.map SV.d ++ ts) g σ (xs ++ vs) H → ∀ Q : L2.St → Hp → Prop, (∀ σ' ρ' H', World K I0 H0 bs ρ' ts g σ' vs H' → post ρ' → Q σ' H') → gt xs σ H Q
theorem gg_name {j : Nat} {d : D} {post : List SV → Prop} (p : post (ρ.set j (.d d))) : GoG K n (gName j) d ρ ts g post := by
  intro I0 H0 bs σ vs v H hn ⟨I, ls, w⟩ Q q
  obtain ⟨w1, r⟩ := w.pop
  exact q _ _ H ⟨I, ls, ⟨w1.fr, w1.ce, w1.lo, Paired.set r j w1.rs, w1.rv⟩⟩ p
theorem ggs_nil {post : List SV → Prop} (p : post ρ) : GoGs K n gNil [] ρ ts g post := by
  intro I0 H0 bs σ vs xs H hn hl w Q q
  cases xs with
  | nil => exact ⟨rfl, q σ ρ H w p⟩
  | cons _ _ => cases hl
theorem ggs_cons {t : TG} {u : TGs} {d : D} {ds : List D} {post : List SV → Prop} (h : GoG K n t d ρ (ds.map SV.d ++ ts) g fun ρ' => GoGs K n u ds ρ' ts g post) : GoGs K n (gCons t u) (d :: ds) ρ ts g post := by
  intro I0 H0 bs σ vs xs H hn hl w Q q
  cases xs with
  | nil => cases hl
  | cons x xs =>
    refine ⟨x, xs, rfl, h I0 H0 bs σ (xs ++ vs) x H hn w _ fun σ' ρ' H' w' p => ?_⟩
    exact p I0 H0 bs σ' vs xs H' hn (Nat.succ.inj hl) w' Q q
theorem gg_tup {m : Nat} {t : TGs} {ds : List D} {post : List SV → Prop} (hm : ds.length = m) (h : GoGs K n t ds ρ ts g post) : GoG K n (gTup K m t) (.tuple ds) ρ ts g post := by
  intro I0 H0 bs σ vs v H hn ⟨I, ls, w⟩ Q q
  obtain ⟨w1, r⟩ := w.pop
  cases r with
  | d i =>
    cases i with
    | @tup a xs _ hs ha =>
      refine ⟨a, xs, rfl, Evl.ex_t w1.fr.ih hs, ha.length.trans hm, h I0 H0 bs σ vs xs H hn ha.length ⟨I, ls, ⟨w1.fr, w1.ce, w1.lo, w1.rs, ?_⟩⟩ Q q⟩
      unfold Rels
      rw [List.map_append]
      exact Paired.app (rels_of ha) w1.rv
/-- the targets are among js -/
def InJs (js : List Nat) (gt : TG) : Prop := ∀ v σ H Q, gt v σ H Q → gt v σ H fun σ2 H2 => Q σ2 H2 ∧ wipe σ2 js = wipe σ js
def InJss (js : List Nat) (gt : TGs) : Prop := ∀ v σ H Q, gt v σ H Q → gt v σ H fun σ2 H2 => Q σ2 H2 ∧ wipe σ2 js = wipe σ js
theorem wipe_get : ∀ (js : List Nat) (σ : L2.St) (i : Nat), (wipe σ js)[i]? = if i ∈ js then (σ[i]?).map (fun _ => none) else σ[i]?
  | [], σ, i => by simp [wipe]
  | j :: js, σ, i => by
    unfold wipe
    rw [List.getElem?_set]
    by_cases h : j = i
    · subst h
      rw [if_pos rfl, if_pos (List.mem_cons_self), wipe_length]
      by_cases hl : j < σ.length
      · rw [if_pos hl, List.getElem?_eq_getElem hl]; rfl
      · rw [if_neg hl, List.getElem?_eq_none (by omega)]; rfl
    · rw [if_neg h, wipe_get js σ i]
      by_cases hm : i ∈ js
      · rw [if_pos hm, if_pos (List.mem_cons_of_mem _ hm)]
      · rw [if_neg hm, if_neg (fun z => by
          rcases List.mem_cons.mp z with z | z
          · exact h z.symm
          · exact hm z)]
theorem wipe_set {js : List Nat} {σ : L2.St} {j : Nat} {x : Option V} (h : j ∈ js) : wipe (σ.set j x) js = wipe σ js := by
  apply List.ext_getElem?
  intro i
  rw [wipe_get, wipe_get]
  by_cases hm : i ∈ js
  · rw [if_pos hm, if_pos hm, List.getElem?_set]
    by_cases hj : j = i
    · subst hj
      rw [if_pos rfl]
      by_cases hl : j < σ.length
      · rw [if_pos hl, List.getElem?_eq_getElem hl]; rfl
      · rw [if_neg hl, List.getElem?_eq_none (by omega)]
    · rw [if_neg hj]
  · rw [if_neg hm, if_neg hm, List.getElem?_set, if_neg (fun z : j = i => hm (by rw [← z]; exact h))]
theorem wipe_wipe (js : List Nat) (σ : L2.St) : wipe (wipe σ js) js = wipe σ js := by
  apply List.ext_getElem?
  intro i
  rw [wipe_get, wipe_get]
  by_cases hm : i ∈ js
  · rw [if_pos hm, if_pos hm, Option.map_map]; rfl
  · rw [if_neg hm, if_neg hm]
theorem ij_name {js : List Nat} {j : Nat} (h : j ∈ js) : InJs js (gName j) := fun v σ H Q q => ⟨q, wipe_set h⟩
theorem ij_nil {js : List Nat} : InJss js gNil := fun v σ H Q ⟨e, q⟩ => ⟨e, q, rfl⟩
/-- a reading of targets asks no more of a weaker end -/
def MonG (gt : TG) : Prop := ∀ v σ H (Q Q' : L2.St → Hp → Prop), (∀ σ H, Q σ H → Q' σ H) → gt v σ H Q → gt v σ H Q'
def MonGs (gt : TGs) : Prop := ∀ v σ H (Q Q' : L2.St → Hp → Prop), (∀ σ H, Q σ H → Q' σ H) → gt v σ H Q → gt v σ H Q'
theorem mg_name {j : Nat} : MonG (gName j) := fun v σ H Q Q' k q => k _ _ q
theorem mg_nil : MonGs gNil := fun v σ H Q Q' k ⟨e, q⟩ => ⟨e, k _ _ q⟩
theorem mg_cons {t : TG} {u : TGs} (h : MonG t) (k : MonGs u) : MonGs (gCons t u) := fun vs σ H Q Q' f ⟨v, r, e, q⟩ => ⟨v, r, e, h v σ H _ _ (fun σ' H' q' => k r σ' H' _ _ f q') q⟩
theorem mg_tup {m : Nat} {t : TGs} (h : MonGs t) : MonG (gTup K m t) := fun v σ H Q Q' f ⟨a, xs, e, s, l, q⟩ => ⟨a, xs, e, s, l, h xs σ H _ _ f q⟩
theorem ij_cons {js : List Nat} {t : TG} {u : TGs} (mt : MonG t) (h : InJs js t) (k : InJss js u) : InJss js (gCons t u) := fun vs σ H Q ⟨v, r, e, q⟩ => by
  refine ⟨v, r, e, ?_⟩
  have q1 := h v σ H _ q
  refine mt v σ H _ _ (fun σ' H' q' => ?_) q1
  obtain ⟨q2, e2⟩ := q'
  have q3 := k r σ' H' Q q2
  rw [e2] at q3
  exact q3
theorem ij_tup {js : List Nat} {m : Nat} {t : TGs} (h : InJss js t) : InJs js (gTup K m t) := fun v σ H Q ⟨a, xs, e, s, l, q⟩ => ⟨a, xs, e, s, l, h xs σ H Q q⟩
/-! ### what is walked -/
structure Walks (K : PySem.W.Frag) (I : Hp) (J : It) (items : List D) : Prop where
  go : ∀ i I2 H2, Ex I I2 → Ex I2 H2 → i < items.length → J.go i H2
  stop : ∀ I2 H2, Ex I I2 → Ex I2 H2 → J.stop items.length H2
  yld : ∀ i d I2 H2 x H', Ex I I2 → Ex I2 H2 → items[i]? = some d → J.yld i H2 x H' → ∃ I', Fr [] I2 H2 I' H' ∧ Is K I' x d
def GoI (K : PySem.W.Frag) (n : Nat) (wi : TI) (ρ ts : List SV) (g : List Cell) (post : List D → List Cell → Prop) : Prop :=
  ∀ I0 H0 bs σ vs H, bs.length = n → World K I0 H0 bs ρ ts g σ vs H → ∀ R : It → Hp → Prop, (∀ J H1 g1 items I ls, Wd K I0 H0 bs ls ρ ts g1 σ vs I H1 → Walks K I J items → post items g1 → R J H1) → wi σ H R
theorem gi_list {tl : TE} {post : List D → List Cell → Prop} (h : GoD K n tl ρ ts g fun d g1 => ∃ ds, d = .list ds ∧ post ds g1) : GoI K n (iList K tl) ρ ts g post := by
  intro I0 H0 bs σ vs H hn w R q
  refine h I0 H0 bs σ vs H hn w _ fun v H1 s g1 ⟨I, ls, w1⟩ ⟨d, e, ds, e2, p⟩ => ?_
  subst e e2
  obtain ⟨w2, r⟩ := w1.pop
  cases r with
  | d i =>
    cases i with
    | @lst a xs _ hs ha =>
      have wk := walk_list (K := K) (a := a) (xs := xs)
      have sq : ∀ I2 H2, Ex I I2 → Ex I2 H2 → SqL K H2 a xs := fun I2 H2 e1 e2 => .inl (Evl.ex_rd e2 (Evl.ex_rd e1 hs))
      refine ⟨a, rfl, ⟨xs, .inl (Evl.ex_rd w2.fr.ih hs)⟩, q _ H1 g1 ds I ls w2 ⟨fun i I2 H2 e1 e2 hi => wk.goes i H2 (by rw [ha.length]; exact hi) (sq I2 H2 e1 e2), fun I2 H2 e1 e2 => ?_, fun i d I2 H2 x H' e1 e2 hi y => ?_⟩ p⟩
      · have := wk.stops H2 (sq I2 H2 e1 e2)
        rw [ha.length] at this
        exact this
      · have hlt : i < xs.length := by rw [ha.length]; exact (List.getElem?_eq_some_iff.mp hi).1
        obtain ⟨rfl, hx⟩ := wk.yields i H2 x H' hlt (sq I2 H2 e1 e2) y
        obtain ⟨v, hv, iv⟩ := (ha.mono e1).get hi
        rw [hv] at hx
        cases hx
        exact ⟨I2, Fr.refl e2, iv⟩
theorem gi_tup {tl : TE} {post : List D → List Cell → Prop} (h : GoD K n tl ρ ts g fun d g1 => ∃ ds, d = .tuple ds ∧ post ds g1) : GoI K n (iTup K tl) ρ ts g post := by
  intro I0 H0 bs σ vs H hn w R q
  refine h I0 H0 bs σ vs H hn w _ fun v H1 s g1 ⟨I, ls, w1⟩ ⟨d, e, ds, e2, p⟩ => ?_
  subst e e2
  obtain ⟨w2, r⟩ := w1.pop
  cases r with
  | d i =>
    cases i with
    | @tup a xs _ hs ha =>
      have wk := walk_tup (K := K) (a := a) (xs := xs)
      have sq : ∀ I2 H2, Ex I I2 → Ex I2 H2 → SqT K H2 a xs := fun I2 H2 e1 e2 => Evl.ex_t e2 (Evl.ex_t e1 hs)
      refine ⟨a, rfl, ⟨xs, Evl.ex_t w2.fr.ih hs⟩, q _ H1 g1 ds I ls w2 ⟨fun i I2 H2 e1 e2 hi => wk.goes i H2 (by rw [ha.length]; exact hi) (sq I2 H2 e1 e2), fun I2 H2 e1 e2 => ?_, fun i d I2 H2 x H' e1 e2 hi y => ?_⟩ p⟩
      · have := wk.stops H2 (sq I2 H2 e1 e2)
        rw [ha.length] at this
        exact this
      · have hlt : i < xs.length := by rw [ha.length]; exact (List.getElem?_eq_some_iff.mp hi).1
        obtain ⟨rfl, hx⟩ := wk.yields i H2 x H' hlt (sq I2 H2 e1 e2) y
        obtain ⟨v, hv, iv⟩ := (ha.mono e1).get hi
        rw [hv] at hx
        cases hx
        exact ⟨I2, Fr.refl e2, iv⟩
def rngD (lo : Int) (n : Nat) : List D := (List.range n).map fun i => .int (lo + (i : Nat))
theorem rngD_len {lo : Int} {n : Nat} : (rngD lo n).length = n := by unfold rngD; rw [List.length_map, List.length_range]
theorem rngD_get {lo : Int} {n i : Nat} (h : i < n) : (rngD lo n)[i]? = some (.int (lo + (i : Nat))) := by
  unfold rngD
  rw [List.getElem?_map, List.getElem?_range h]
  rfl
theorem walks_range {lo : Int} {m : Nat} : Walks K I (Itr lo m) (rngD lo m) := by
  have wk := walk_range (lo := lo) (n := m)
  refine ⟨fun i I2 H2 e1 e2 hi => wk.goes i H2 (by rw [rngD_len] at hi; exact hi) trivial, fun I2 H2 e1 e2 => ?_, fun i d I2 H2 x H' e1 e2 hi y => ?_⟩
  · rw [rngD_len]; exact wk.stops H2 trivial
  · have hlt : i < m := by
      have := (List.getElem?_eq_some_iff.mp hi).1
      rw [rngD_len] at this
      exact this
    obtain ⟨rfl, rfl⟩ := wk.yields i H2 x H' hlt trivial y
    rw [rngD_get hlt] at hi
    cases hi
    exact ⟨I2, Fr.refl e2, .int _⟩
theorem gi_rng1 {ta : TA} {post : List D → List Cell → Prop} (h : GoDs K n ta ρ ts g fun ds g1 => ∃ j : Int, ds = [.int j] ∧ -1000000 ≤ j ∧ j ≤ 1000000 ∧ post (rngD 0 j.toNat) g1) : GoI K n (iRng1 ta) ρ ts g post := by
  intro I0 H0 bs σ vs H hn w R q
  refine h I0 H0 bs σ vs H hn w _ fun ws H1 ss g1 hl ⟨I, ls, w1⟩ ⟨ds, e, j, e2, h1, h2, p⟩ => ?_
  subst e e2
  obtain ⟨w2, r⟩ := w1.pops hl
  have i := rels_d r
  cases i with
  | cons i t =>
    cases t
    cases i
    exact ⟨j, rfl, by omega, by omega, q _ H1 g1 _ I ls w2 walks_range p⟩
theorem gi_rng2 {ta : TA} {post : List D → List Cell → Prop} (h : GoDs K n ta ρ ts g fun ds g1 => ∃ i j : Int, ds = [.int i, .int j] ∧ -1000000 ≤ i ∧ i ≤ 1000000 ∧ -1000000 ≤ j ∧ j ≤ 1000000 ∧ post (rngD i (j - i).toNat) g1) : GoI K n (iRng2 ta) ρ ts g post := by
  intro I0 H0 bs σ vs H hn w R q
  refine h I0 H0 bs σ vs H hn w _ fun ws H1 ss g1 hl ⟨I, ls, w1⟩ ⟨ds, e, i, j, e2, h1, h2, h3, h4, p⟩ => ?_
  subst e e2
  obtain ⟨w2, r⟩ := w1.pops hl
  have i := rels_d r
  cases i with
  | cons i t =>
    cases t with
    | cons i2 t =>
      cases t
      cases i
      cases i2
      exact ⟨_, j, rfl, ⟨by omega, by omega, by omega, by omega⟩, q _ H1 g1 _ I ls w2 walks_range p⟩
/-- what a block that was lent all cells leaves -/
theorem Fr.deep (a : Fr bs I0 H0 I H) (lo : ∀ p ∈ ls, H0 p = none) (f : Fr (bs ++ ls) I H I' H') : Fr bs I0 H0 I' H' :=
  ⟨a.ii.trans f.ii, f.ih, fun p o m e => f.fr p o (fun y => by
    rcases List.mem_append.mp y with y | y
    · exact m y
    · rw [lo p y] at e; cases e) (a.fr p o m e), fun p e => f.dm p (a.dm p e), fun p e z => f.nw p (a.dm p e) (a.nw p e z)⟩
theorem rels_wipe {js : List Nat} : ∀ {o : L2.St} {ss : List SV}, Rels K I as o ss → ∀ k, Rels K I as (o.set k none) (ss.set k .no)
  | _, _, .nil, _ => .nil
  | _, _, .cons _ t, 0 => .cons .no t
  | _, _, .cons r t, k + 1 => .cons r (rels_wipe (js := js) t k)
def wipeS (ρ : List SV) : List Nat → List SV
  | [] => ρ
  | j :: js => (wipeS ρ js).set j .no
theorem rels_wipes {o : L2.St} {ss : List SV} (r : Rels K I as o ss) : ∀ js, Rels K I as (wipe o js) (wipeS ss js)
  | [] => r
  | j :: js => rels_wipe (js := js) (rels_wipes r js) j
/-- one is frozen that nobody else holds -/
theorem Wd.freeze {p : Addr} {xs : List V} (w : Wd K I0 H0 bs ls ρ ts g σ vs I H) (h0 : H0 p = none) (np : p ∉ bs ++ ls) (ip : I p = none) (hp : H p = some (.lst xs)) : Wd K I0 H0 bs ls ρ ts g σ vs (upd I p (.lst xs)) H := by
  have ex : Ex I (upd I p (.lst xs)) := Ex.new ip
  refine ⟨⟨w.fr.ii.trans ex, fun a o e => ?_, w.fr.fr, w.fr.dm, fun a e z => ?_⟩, w.ce.keep ex (fun _ _ _ e => e) (fun a m e => by rw [upd_ne (ne_mem m np)]; exact e), w.lo, w.rs.mono ex, w.rv.mono ex⟩
  · by_cases y : a = p
    · subst y; rw [upd_same] at e; rw [hp]; exact e
    · rw [upd_ne y] at e; exact w.fr.ih a o e
  · rw [upd_ne (fun y : a = p => e (by rw [y]; exact h0))]; exact w.fr.nw a e z
/-- [elt for target in iter if test]: Iv tells what is made so far -/
theorem gd_lc {wi : TI} {gt : TG} {tt : TT} {te : TE} {js : List Nat} {post : D → List Cell → Prop} (hm : MonG gt) (hj : InJs js gt)
    (h : GoI K n wi ρ ts g fun items g1 => items.length ≤ 50000 ∧ ∃ Iv : Nat → List D → List Cell → Prop, Iv 0 [] g1 ∧
      (∀ i d acc g2, items[i]? = some d → Iv i acc g2 → GoG K g2.length gt d (wipeS ρ js) ts g2 fun ρ' => GoT K g2.length tt ρ' ts g2 fun b g3 =>
        (b = true → GoD K g2.length te ρ' ts g3 fun e g4 => g4.length = g2.length ∧ Iv (i + 1) (acc ++ [e]) g4) ∧ (b = false → g3.length = g2.length ∧ Iv (i + 1) acc g3)) ∧
      (∀ acc g2, Iv items.length acc g2 → post (.list acc) g2)) : GoD K n (tLc wi gt tt te js) ρ ts g post := by
  intro I0 H0 bs σ vs H hn w Q q
  refine h I0 H0 bs σ vs H hn w _ fun J H1 g1 items I1 ls w1 wk ⟨hz, Iv, iv0, step, fin⟩ Dl hD => ?_
  have h0 : H0 Dl = none := by
    cases z : H0 Dl with
    | none => rfl
    | some o => exact absurd hD (w1.fr.dm Dl (by rw [z]; exact fun y => nomatch y))
  have nD : Dl ∉ bs ++ ls := fun m => w1.ce.in_ Dl m hD
  have i1D : I1 Dl = none := Evl.fresh_back w1.fr.ih hD
  refine ⟨fun i m H => ∃ I acc accV g, i + m = items.length ∧ Wd K I0 H0 bs ls ρ ts g σ vs I H ∧ Ex I1 I ∧ I Dl = none ∧ H Dl = some (.lst accV) ∧ IsAll K I accV acc ∧ acc.length ≤ i ∧ Iv i acc g, ⟨items.length, I1, [], [], g1, by omega, ?_, Ex.refl I1, i1D, upd_same, .nil, Nat.le_refl _, iv0⟩, fun i m H2 hW => ?_⟩
  · have hx : ∀ b o, H1 b = some o → upd H1 Dl (.lst []) b = some o := fun b o e => by rw [upd_ne (ne_of_none e hD)]; exact e
    refine ⟨⟨w1.fr.ii, fun b o e => hx b o (w1.fr.ih b o e), fun b o m e => hx b o (w1.fr.fr b o m e), fun b e => ?_, w1.fr.nw⟩, w1.ce.keep (Ex.refl I1) (fun b _ o e => hx b o e) (fun _ _ e => e), w1.lo, w1.rs, w1.rv⟩
    cases z : H1 b with
    | none => exact absurd z (w1.fr.dm b e)
    | some o => rw [hx b o z]; exact fun y => nomatch y
  · obtain ⟨I, acc, accV, g2, em, wd, exI, iD, hDl, ia, hacc, iv⟩ := hW
    by_cases hi : i < items.length
    · refine .inr ⟨wk.go i I H2 exI wd.fr.ih hi, fun H' => ∃ I acc accV g, Wd K I0 H0 bs ls ρ ts g σ vs I H' ∧ Ex I1 I ∧ I Dl = none ∧ H' Dl = some (.lst accV) ∧ IsAll K I accV acc ∧ acc.length ≤ i + 1 ∧ Iv (i + 1) acc g, fun H' ⟨I', acc', accV', g', a, b, c, d, e, f, k⟩ => ⟨m - 1, by omega, I', acc', accV', g', by omega, a, b, c, d, e, f, k⟩, fun x H3 hy => ?_⟩
      have hdi : items[i]? = some items[i] := List.getElem?_eq_getElem hi
      obtain ⟨I3, f3, ix⟩ := wk.yld i _ I H2 x H3 exI wd.fr.ih hdi hy
      have wd3 := (wd.step f3)
      have hD3 : H3 Dl = some (.lst accV) := f3.fr Dl _ (fun z => nomatch z) hDl
      have iD3 : I3 Dl = none := f3.nw Dl (by rw [hDl]; exact fun y => nomatch y) iD
      have len2 : (bs ++ ls).length = g2.length := wd3.ce.len
      -- the block's own world
      have wB : World K I3 H3 (bs ++ ls) (wipeS ρ js) (.d items[i] :: ts) g2 (wipe σ js) (x :: vs) H3 := by
        refine ⟨I3, [], Wd.mk (Fr.refl wd3.fr.ih) ?_ (fun _ z => nomatch z) ?_ ?_⟩
        · rw [List.append_nil]; exact wd3.ce
        · rw [List.append_nil]; exact rels_wipes wd3.rs js
        · rw [List.append_nil]; exact .cons (.d ix) wd3.rv
      -- what the block leaves, seen from outside
      have back : ∀ ρ' σ' H' g' ts' vs', World K I3 H3 (bs ++ ls) ρ' ts' g' σ' vs' H' → g'.length = g2.length → ∃ I', Wd K I0 H0 bs ls ρ ts g' σ vs I' H' ∧ Ex I3 I' ∧ I' Dl = none ∧ H' Dl = some (.lst accV) ∧ Rels K I' (bs ++ ls) (vs'.map some) ts' := by
        intro ρ' σ' H' g' ts' vs' ⟨I', ls', w'⟩ hl
        have : ls' = [] := by
          have e := w'.ce.len
          rw [List.length_append, hl, len2] at e
          exact List.length_eq_zero_iff.mp (by omega)
        subst this
        have ce := w'.ce
        have rv := w'.rv
        rw [List.append_nil] at ce rv
        exact ⟨I', ⟨wd3.fr.deep wd3.lo w'.fr, ce, wd3.lo, wd3.rs.mono w'.fr.ii, wd3.rv.mono w'.fr.ii⟩, w'.fr.ii, w'.fr.nw Dl (by rw [hD3]; exact fun y => nomatch y) iD3, w'.fr.fr Dl _ nD hD3, rv⟩
      have st := step i _ acc g2 hdi iv
      have gG := st I3 H3 (bs ++ ls) (wipe σ js) vs x H3 len2 wB (fun σ2 H4 => tt σ2 H4 fun b H5 => if b = true then te σ2 H5 fun y H6 => ∃ acc, H6 Dl = some (.lst acc) ∧ acc.length < sizeLine ∧ (∃ I acc2 accV g, Wd K I0 H0 bs ls ρ ts g σ vs I (upd H6 Dl (.lst (acc ++ [y]))) ∧ Ex I1 I ∧ I Dl = none ∧ (upd H6 Dl (.lst (acc ++ [y]))) Dl = some (.lst accV) ∧ IsAll K I accV acc2 ∧ acc2.length ≤ i + 1 ∧ Iv (i + 1) acc2 g) else (∃ I acc accV g, Wd K I0 H0 bs ls ρ ts g σ vs I H5 ∧ Ex I1 I ∧ I Dl = none ∧ H5 Dl = some (.lst accV) ∧ IsAll K I accV acc ∧ acc.length ≤ i + 1 ∧ Iv (i + 1) acc g)) fun σ2 ρ2 H4 w4 gT => ?_
      · refine hm x _ H3 _ _ (fun σ2 H4 q4 => ?_) (hj x _ H3 _ gG)
        obtain ⟨q4, e4⟩ := q4
        rw [wipe_wipe] at e4
        exact ⟨e4, q4⟩
      · refine gT I3 H3 (bs ++ ls) σ2 vs H4 len2 w4 _ fun b H5 g5 w5 ⟨pt, pf⟩ => ?_
        cases b with
        | true =>
          rw [if_pos rfl]
          refine pt rfl I3 H3 (bs ++ ls) σ2 vs H5 len2 w5 _ fun y H6 s g6 w6 ⟨e, es, hl6, iv6⟩ => ?_
          subst es
          obtain ⟨I6, wd6, ex6, i6D, h6D, rv6⟩ := back _ _ _ _ _ _ w6 hl6
          cases rv6 with
          | cons ry _ =>
            cases ry with
            | d iy =>
              have exx : Ex I1 I6 := (exI.trans f3.ii).trans ex6
              refine ⟨accV, h6D, by rw [ia.length]; exact Evl.sz_lt (by omega), I6, acc ++ [e], accV ++ [y], g6, ?_, exx, i6D, upd_same, ((ia.mono f3.ii).mono ex6).append (.one iy), by rw [List.length_append]; show acc.length + 1 ≤ i + 1; omega, iv6⟩
              have hx : ∀ b o, b ≠ Dl → H6 b = some o → upd H6 Dl (.lst (accV ++ [y])) b = some o := fun b o nb e => by rw [upd_ne nb]; exact e
              refine ⟨⟨wd6.fr.ii, fun b o e => hx b o (fun z => by rw [z, i6D] at e; cases e) (wd6.fr.ih b o e), fun b o m e => hx b o (fun z => by rw [z, h0] at e; cases e) (wd6.fr.fr b o m e), fun b e => ?_, wd6.fr.nw⟩, wd6.ce.keep (Ex.refl I6) (fun b m o e => hx b o (ne_mem m nD) e) (fun _ _ e => e), wd6.lo, wd6.rs, wd6.rv⟩
              cases z : H6 b with
              | none => exact absurd z (wd6.fr.dm b e)
              | some o => rw [hx b o (fun y : b = Dl => e (by rw [y]; exact h0)) z]; exact fun y => nomatch y
        | false =>
          rw [if_neg Bool.false_ne_true]
          obtain ⟨hl5, iv5⟩ := pf rfl
          obtain ⟨I6, wd6, ex6, i6D, h6D, _⟩ := back _ _ _ _ _ _ w5 hl5
          exact ⟨I6, acc, accV, g5, wd6, (exI.trans f3.ii).trans ex6, i6D, h6D, (ia.mono f3.ii).mono ex6, by omega, iv5⟩
    · have e : i = items.length := by omega
      subst e
      refine .inl ⟨wk.stop I H2 exI wd.fr.ih, ?_⟩
      refine q (.ref Dl) H2 (.d (.list acc)) g2 ⟨upd I Dl (.lst accV), ls, (wd.freeze h0 nD iD hDl).push (.d (.lst (.inl upd_same) (ia.mono (Ex.new iD))))⟩ ⟨_, rfl, fin acc g2 iv⟩
end
end Go
namespace Go
open PySem PySem.Spec PyProof.Rows L2
open Evl (Ex)
section
variable {K : PySem.W.Frag} {I0 H0 I I' H H' : Hp} {bs ls as : List Addr} {ρ ts : List SV} {g : List Cell} {σ : L2.St} {vs : List V} {n : Nat} {κ : Ks}
theorem Meets.nx' {E : Ends} (m : Meets K I0 H0 bs κ E) {N : L2.St → Hp → Prop} {P : List SV → List Cell → Prop} (h : ∀ σ H ρ g, World K I0 H0 bs ρ [] g σ [] H → P ρ g → N σ H) : Meets K I0 H0 bs { κ with nx := P } { E with nx := N } := ⟨h, m.rt, m.bk, m.ct⟩
theorem gs_seq {t u : TS} (h : GoS K n t ρ g { κ with nx := fun ρ' g' => GoS K n u ρ' g' κ }) : GoS K n (tSeq t u) ρ g κ :=
  fun I0 H0 bs σ H E hn w m => h I0 H0 bs σ H _ hn w (m.nx' fun σ' H' ρ' g' w' p => p I0 H0 bs σ' H' E hn w' m)
theorem gs_next (h : κ.nx ρ g) : GoS K n tNext ρ g κ := fun I0 H0 bs σ H E hn w m => m.nx σ H ρ g w h
theorem gs_cont (h : κ.ct ρ g) : GoS K n tCont ρ g κ := fun I0 H0 bs σ H E hn w m => m.ct σ H ρ g w h
theorem gs_break (h : κ.bk ρ g) : GoS K n tBreak ρ g κ := fun I0 H0 bs σ H E hn w m => m.bk σ H ρ g w h
theorem gs_asg {te : TE} {i : Nat} (h : GoE K n te ρ [] g fun s g' => κ.nx (ρ.set i s) g') : GoS K n (tAsg te (gName i)) ρ g κ := by
  intro I0 H0 bs σ H E hn w m
  refine h I0 H0 bs σ [] H hn w _ fun v H1 s g1 ⟨I, ls, w1⟩ p => ?_
  obtain ⟨w2, r⟩ := w1.pop
  exact m.nx _ H1 _ g1 ⟨I, ls, ⟨w2.fr, w2.ce, w2.lo, Paired.set r i w2.rs, w2.rv⟩⟩ p
theorem gs_asgD {te : TE} {i : Nat} (h : GoD K n te ρ [] g fun d g' => κ.nx (ρ.set i (.d d)) g') : GoS K n (tAsg te (gName i)) ρ g κ := gs_asg (GoE.imp h fun s g' ⟨d, e, p⟩ => by rw [e]; exact p)
theorem gs_asgG {te : TE} {gt : TG} (h : GoD K n te ρ [] g fun d g' => GoG K n gt d ρ [] g' fun ρ' => κ.nx ρ' g') : GoS K n (tAsg te gt) ρ g κ := by
  intro I0 H0 bs σ H E hn w m
  refine h I0 H0 bs σ [] H hn w _ fun v H1 s g1 w1 ⟨d, e, p⟩ => ?_
  subst e
  exact p I0 H0 bs σ [] v H1 hn w1 _ fun σ' ρ' H' w' p' => m.nx σ' H' ρ' g1 w' p'
theorem gs_if {c : TT} {t u : TS} (h : GoT K n c ρ [] g fun b g1 => (b = true → GoS K n t ρ g1 κ) ∧ (b = false → GoS K n u ρ g1 κ)) : GoS K n (tIfS c t u) ρ g κ := by
  intro I0 H0 bs σ H E hn w m
  refine h I0 H0 bs σ [] H hn w _ fun b H1 g1 w1 ⟨p, p'⟩ => ?_
  cases b with
  | true => rw [if_pos rfl]; exact p rfl I0 H0 bs σ H1 E hn w1 m
  | false => rw [if_neg Bool.false_ne_true]; exact p' rfl I0 H0 bs σ H1 E hn w1 m
theorem gs_retE {te : TE} (h : GoE K n te ρ [] g κ.rt) : GoS K n (tRet te) ρ g κ := by
  intro I0 H0 bs σ H E hn w m
  exact h I0 H0 bs σ [] H hn w _ fun v H1 s g1 w1 p => m.rt v σ H1 ρ s g1 w1 p
theorem gs_ret {te : TE} (h : GoD K n te ρ [] g fun d g' => κ.rt (.d d) g') : GoS K n (tRet te) ρ g κ := gs_retE (GoE.imp h fun s g' ⟨d, e, p⟩ => by rw [e]; exact p)
theorem gs_drop {te : TE} (h : GoE K n te ρ [] g fun _ g' => κ.nx ρ g') : GoS K n (tDrop te) ρ g κ := by
  intro I0 H0 bs σ H E hn w m
  refine h I0 H0 bs σ [] H hn w _ fun v H1 s g1 ⟨I, ls, w1⟩ p => m.nx σ H1 ρ g1 ⟨I, ls, w1.pop.1⟩ p
/-- a local cell is given up: from now on it is data -/
theorem Wd.give {j : Nat} {p : Addr} {ds : List D} (w : Wd K I0 H0 bs ls ρ ts g σ vs I H) (hn : bs.length ≤ j) (hp : (bs ++ ls)[j]? = some p) (hg : g[j]? = some (some ds)) : ∃ I', Wd K I0 H0 bs ls ρ ts (g.set j none) σ vs I' H ∧ Is K I' (.ref p) (.list ds) := by
  obtain ⟨ip, xs, hx, ia⟩ := w.ce.at hp hg
  have pl : p ∈ ls := by
    rw [List.getElem?_append_right hn] at hp
    exact List.mem_of_getElem? hp
  have h0 := w.lo p pl
  have ex : Ex I (upd I p (.lst xs)) := Ex.new ip
  refine ⟨upd I p (.lst xs), ⟨⟨w.fr.ii.trans ex, fun a o e => ?_, w.fr.fr, w.fr.dm, fun a e z => ?_⟩, w.ce.give ex (fun a na e => by rw [upd_ne na]; exact e) hp, w.lo, w.rs.mono ex, w.rv.mono ex⟩, .lst (.inl upd_same) (ia.mono ex)⟩
  · by_cases y : a = p
    · subst y; rw [upd_same] at e; rw [hx]; exact e
    · rw [upd_ne y] at e; exact w.fr.ih a o e
  · rw [upd_ne (fun y : a = p => e (by rw [y]; exact h0))]; exact w.fr.nw a e z
/-- .. as what an expression gives -/
theorem gd_give {te : TE} {post : D → List Cell → Prop} (h : GoE K n te ρ ts g fun s g1 => ∃ j ds, s = .c j ∧ n ≤ j ∧ g1[j]? = some (some ds) ∧ post (.list ds) (g1.set j none)) : GoD K n te ρ ts g post := by
  intro I0 H0 bs σ vs H hn w Q q
  refine h I0 H0 bs σ vs H hn w _ fun v H1 s g1 ⟨I, ls, w1⟩ ⟨j, ds, e, hj, hg, pp⟩ => ?_
  subst e
  obtain ⟨w2, r⟩ := w1.pop
  cases r with
  | @c p _ hp =>
    obtain ⟨I', w3, i⟩ := w2.give (by rw [hn]; exact hj) hp hg
    exact q _ H1 (.d (.list ds)) _ ⟨I', ls, w3.push (.d i)⟩ ⟨_, rfl, pp⟩
/-- .. as a slot -/
theorem gs_give {t : TS} (i : Nat) {j : Nat} {ds : List D} (hi : ρ[i]? = some (.c j)) (hj : n ≤ j) (hg : g[j]? = some (some ds)) (h : GoS K n t (ρ.set i (.d (.list ds))) (g.set j none) κ) : GoS K n t ρ g κ := by
  intro I0 H0 bs σ H E hn ⟨I, ls, w⟩ m
  obtain ⟨o, e, r⟩ := Paired.get w.rs hi
  cases r with
  | @c p _ hp =>
    obtain ⟨I', w3, is⟩ := w.give (by rw [hn]; exact hj) hp hg
    have hs : σ.set i (some (.ref p)) = σ := by
      apply List.ext_getElem?
      intro k
      rw [List.getElem?_set]
      by_cases z : i = k
      · subst z
        have hl := (List.getElem?_eq_some_iff.mp e).1
        rw [if_pos rfl, if_pos hl, e]
      · rw [if_neg z]
    have rs := Paired.set (RelS.d is) i w3.rs
    rw [hs] at rs
    exact h I0 H0 bs σ H E hn ⟨I', ls, ⟨w3.fr, w3.ce, w3.lo, rs, w3.rv⟩⟩ m
/-- a cell is written -/
theorem Wd.put {j : Nat} {p : Addr} {ds : List D} {xs : List V} (w : Wd K I0 H0 bs ls ρ ts g σ vs I H) (hp : (bs ++ ls)[j]? = some p) (ip : I p = none) (hx : H p ≠ none) (ia : IsAll K I xs ds) : Wd K I0 H0 bs ls ρ ts (g.set j (some ds)) σ vs I (upd H p (.lst xs)) := by
  have hm : p ∈ bs ++ ls := List.mem_of_getElem? hp
  refine ⟨⟨w.fr.ii, fun a o e => ?_, fun a o na e => ?_, fun a e => ?_, w.fr.nw⟩, w.ce.put ip ia hp, w.lo, w.rs, w.rv⟩
  · rw [upd_ne (fun y : a = p => by rw [y, ip] at e; cases e)]; exact w.fr.ih a o e
  · rw [upd_ne (fun y : a = p => ?_)]
    · exact w.fr.fr a o na e
    · subst y
      rcases List.mem_append.mp hm with m | m
      · exact na m
      · rw [w.lo a m] at e; cases e
  · by_cases y : a = p
    · rw [y, upd_same]; exact fun z => nomatch z
    · rw [upd_ne y]; exact w.fr.dm a e
/-- xs.append(e) -/
theorem gs_app {ta te : TE} (h : GoE K n ta ρ [] g fun s g1 => ∃ (j : Nat) (d0 : List D), s = .c j ∧ g1[j]? = some (some d0) ∧ GoD K n te ρ [.c j] g1 fun d g2 => ∃ ds, g2[j]? = some (some ds) ∧ ds.length < 90000 ∧ κ.nx ρ (g2.set j (some (ds ++ [d])))) :
    GoS K n (tDrop (tBM K "list" rAppend ta (tCons te tNil))) ρ g κ := by
  intro I0 H0 bs σ H E hn w m
  refine h I0 H0 bs σ [] H hn w _ fun v H1 s g1 ⟨I, ls, w1⟩ ⟨j, d0, e, hg0, p⟩ => ?_
  subst e
  have w1' := w1
  obtain ⟨w2, r⟩ := w1.pop
  cases r with
  | @c a _ hp =>
    obtain ⟨_, x0, hx0, _⟩ := w2.ce.at hp hg0
    refine ⟨Or.inl ⟨rfl, x0, Evl.sq_of hx0⟩, p I0 H0 bs σ [.ref a] H1 hn ⟨I, ls, w1'⟩ _ fun y H2 s2 g2 ⟨I2, ls2, w3⟩ ⟨d, e2, ds, hg, hz, pn⟩ => ?_⟩
    subst e2
    obtain ⟨w4, ry⟩ := w3.pop
    obtain ⟨w5, ra⟩ := w4.pop
    cases ra with
    | @c a' _ hp2 =>
      obtain ⟨ip, xs, hx, ia⟩ := w5.ce.at hp2 hg
      cases ry with
      | d iy =>
        refine ⟨_, xs, y, rfl, rfl, hx, by rw [ia.length]; exact Evl.sz_lt (by omega), m.nx σ _ ρ _ ⟨I2, ls2, w5.put hp2 ip (by rw [hx]; exact fun z => nomatch z) (ia.append (.one iy))⟩ pn⟩
/-- xs[i] = e -/
theorem gs_set {te ta tb : TE} (h : GoD K n te ρ [] g fun d g1 => GoE K n ta ρ [.d d] g1 fun s g2 => ∃ j : Nat, s = .c j ∧ GoD K n tb ρ [.c j, .d d] g2 fun di g3 => ∃ (i : Int) (ds : List D) (k : Nat), di = .int i ∧ g3[j]? = some (some ds) ∧ ixN ds.length i = some k ∧ κ.nx ρ (g3.set j (some (ds.set k d)))) :
    GoS K n (tAsg te (gSub ta tb rSetL)) ρ g κ := by
  intro I0 H0 bs σ H E hn w m
  refine h I0 H0 bs σ [] H hn w _ fun v H1 s g1 w1 ⟨d, e, p⟩ => ?_
  subst e
  refine p I0 H0 bs σ [v] H1 hn w1 _ fun o H2 s2 g2 w2 ⟨j, e, p⟩ => ?_
  subst e
  refine p I0 H0 bs σ [o, v] H2 hn w2 _ fun x H3 s3 g3 ⟨I, ls, w3⟩ ⟨di, e, i, ds, k, e2, hg, hk, pn⟩ => ?_
  subst e e2
  obtain ⟨w4, r3⟩ := w3.pop
  obtain ⟨w5, r2⟩ := w4.pop
  obtain ⟨w6, r1⟩ := w5.pop
  cases r3 with
  | d i3 =>
    cases i3
    cases r2 with
    | @c a _ hp =>
      cases r1 with
      | d i1 =>
        obtain ⟨ip, xs, hx, ia⟩ := w6.ce.at hp hg
        exact ⟨a, xs, i, k, rfl, rfl, hx, by rw [ia.length]; exact hk, m.nx σ _ ρ _ ⟨I, ls, w6.put hp ip (by rw [hx]; exact fun z => nomatch z) (ia.set i1 k)⟩ pn⟩
/-! ### cells behind the first m are left -/
def cutV1 (m : Nat) : SV → SV
  | .c j => if j < m then .c j else .no
  | s => s
def cutS (m : Nat) (ρ : List SV) : List SV := ρ.map (cutV1 m)
theorem Cells.take : ∀ {as : List Addr} {g : List Cell} (m : Nat), Cells K I H as g → Cells K I H (as.take m) (g.take m)
  | _, _, 0, _ => .nil
  | _, _, _ + 1, .nil => .nil
  | _, _, m + 1, .live a b c nn t => .live a b c (fun z => nn (List.mem_of_mem_take z)) (Cells.take m t)
  | _, _, m + 1, .dead b nn t => .dead b (fun z => nn (List.mem_of_mem_take z)) (Cells.take m t)
theorem rels_cut {m : Nat} : ∀ {o : L2.St} {ss : List SV}, Rels K I as o ss → Rels K I (as.take m) o (cutS m ss)
  | _, _, .nil => .nil
  | _, _, .cons r t => .cons (by
      cases r with
      | no => exact .no
      | d i => exact .d i
      | s i => exact .s i
      | @c p j hp =>
        show RelS K I (as.take m) _ (if j < m then .c j else .no)
        by_cases h : j < m
        · rw [if_pos h]; exact .c (by rw [List.getElem?_take, if_pos h]; exact hp)
        · rw [if_neg h]; exact .no) (rels_cut t)
/-- for target in iter: body -/
theorem gs_for {wi : TI} {gt : TG} {tb : TS} (h : GoI K n wi ρ [] g fun items g1 => ∃ Iv : Nat → List SV → List Cell → Prop, Iv 0 ρ g1 ∧
    (∀ i d ρ' g', items[i]? = some d → Iv i ρ' g' → g'.length = g1.length → GoG K g1.length gt d ρ' [] g' fun ρ2 => GoS K g1.length tb ρ2 g' ⟨fun ρ3 g3 => Iv (i + 1) (cutS g1.length ρ3) (g3.take g1.length), fun s g3 => ∃ d, s = .d d ∧ κ.rt (.d d) (g3.take g1.length), fun ρ3 g3 => κ.nx (cutS g1.length ρ3) (g3.take g1.length), fun ρ3 g3 => Iv (i + 1) (cutS g1.length ρ3) (g3.take g1.length)⟩) ∧
    (∀ ρ' g', Iv items.length ρ' g' → g'.length = g1.length → κ.nx ρ' g')) : GoS K n (tFor wi gt tb) ρ g κ := by
  intro I0 H0 bs σ H E hn w m
  refine h I0 H0 bs σ [] H hn w _ fun J H1 g1 items I1 ls w1 wk ⟨Iv, iv0, step, fin⟩ => ?_
  have len1 : (bs ++ ls).length = g1.length := w1.ce.len
  -- what a world over the loop's base is, seen from the def
  have out : ∀ {ρ' ts' g' σ' vs' H'}, World K I1 H1 (bs ++ ls) ρ' ts' g' σ' vs' H' → ∃ I', Wd K I0 H0 bs ls (cutS g1.length ρ') (cutS g1.length ts') (g'.take g1.length) σ' vs' I' H' ∧ Ex I1 I' ∧ (g'.take g1.length).length = g1.length ∧ Fr (bs ++ ls) I1 H1 I' H' := by
    intro ρ' ts' g' σ' vs' H' ⟨I', ls', w'⟩
    have tk : ((bs ++ ls) ++ ls').take g1.length = bs ++ ls := by rw [← len1, List.take_left']; rfl
    have ce := w'.ce.take g1.length
    have rs := rels_cut (m := g1.length) w'.rs
    have rv := rels_cut (m := g1.length) w'.rv
    rw [tk] at ce rs rv
    exact ⟨I', ⟨w1.fr.deep w1.lo w'.fr, ce, w1.lo, rs, rv⟩, w'.fr.ii, by rw [← ce.len]; exact len1, w'.fr⟩
  refine ⟨fun i k σ' H' => ∃ ρ' g' I', i + k = items.length ∧ Wd K I0 H0 bs ls ρ' [] g' σ' [] I' H' ∧ Fr (bs ++ ls) I1 H1 I' H' ∧ g'.length = g1.length ∧ Iv i ρ' g', ⟨items.length, ρ, g1, I1, by omega, w1, Fr.refl w1.fr.ih, rfl, iv0⟩, fun i k σ' H2 hW => ?_⟩
  obtain ⟨ρ', g', I', em, wd, fr, hl, iv⟩ := hW
  by_cases hi : i < items.length
  · refine .inr ⟨wk.go i I' H2 fr.ii wd.fr.ih hi, fun σ'' H'' => ∃ ρ' g' I', Wd K I0 H0 bs ls ρ' [] g' σ'' [] I' H'' ∧ Fr (bs ++ ls) I1 H1 I' H'' ∧ g'.length = g1.length ∧ Iv (i + 1) ρ' g', fun σ'' H'' ⟨a, b, c, d, e, f, k2⟩ => ⟨k - 1, by omega, a, b, c, by omega, d, e, f, k2⟩, fun x H3 hy => ?_⟩
    have hdi : items[i]? = some items[i] := List.getElem?_eq_getElem hi
    obtain ⟨I3, f3, ix⟩ := wk.yld i _ I' H2 x H3 fr.ii wd.fr.ih hdi hy
    have wd3 := wd.step f3
    have fr3 : Fr (bs ++ ls) I1 H1 I3 H3 := fr.trans (f3.sub fun _ z => nomatch z)
    have wB : World K I1 H1 (bs ++ ls) ρ' [.d items[i]] g' σ' [x] H3 := by
      refine ⟨I3, [], Wd.mk fr3 ?_ (fun _ z => nomatch z) ?_ ?_⟩
      · rw [List.append_nil]; exact wd3.ce
      · rw [List.append_nil]; exact wd3.rs
      · rw [List.append_nil]; exact .cons (.d ix) .nil
    refine step i _ ρ' g' hdi iv hl I1 H1 (bs ++ ls) σ' [] x H3 len1 wB _ fun σ2 ρ2 H4 w4 gb => ?_
    refine gb I1 H1 (bs ++ ls) σ2 H4 _ len1 w4 ⟨fun σ5 H5 ρ5 g5 w5 p5 => ?_, fun v σ5 H5 ρ5 s5 g5 w5 ⟨d5, e5, p5⟩ => ?_, fun σ5 H5 ρ5 g5 w5 p5 => ?_, fun σ5 H5 ρ5 g5 w5 p5 => ?_⟩
    · obtain ⟨I5, a, b, c, d⟩ := out w5
      exact ⟨_, _, I5, a, d, c, p5⟩
    · subst e5
      obtain ⟨I5, a, b, c, d⟩ := out w5
      exact m.rt v σ5 H5 _ _ _ ⟨I5, ls, a⟩ p5
    · obtain ⟨I5, a, b, c, d⟩ := out w5
      exact m.nx σ5 H5 _ _ ⟨I5, ls, a⟩ p5
    · obtain ⟨I5, a, b, c, d⟩ := out w5
      exact ⟨_, _, I5, a, d, c, p5⟩
  · have e : i = items.length := by omega
    subst e
    exact .inl ⟨wk.stop I' H2 fr.ii wd.fr.ih, m.nx σ' H2 ρ' g' ⟨I', ls, wd⟩ (fin ρ' g' iv hl)⟩
/-- while test: body -/
theorem gs_while {c : TT} {tb : TS} (Iv : Nat → List SV → List Cell → Prop) (m0 : Nat) (h0 : Iv m0 ρ g)
    (hs : ∀ m ρ' g', Iv m ρ' g' → GoT K n c ρ' [] g' fun b g1 => (b = true → GoS K n tb ρ' g1 ⟨fun ρ3 g3 => ∃ m', m' < m ∧ Iv m' ρ3 g3, κ.rt, κ.nx, fun ρ3 g3 => ∃ m', m' < m ∧ Iv m' ρ3 g3⟩) ∧ (b = false → κ.nx ρ' g1)) : GoS K n (tWhile c tb) ρ g κ := by
  intro I0 H0 bs σ H E hn w m
  refine ⟨fun k σ' H' => ∃ ρ' g', World K I0 H0 bs ρ' [] g' σ' [] H' ∧ Iv k ρ' g', ⟨m0, ρ, g, w, h0⟩, fun k σ' H' ⟨ρ', g', w', iv⟩ => ?_⟩
  refine hs k ρ' g' iv I0 H0 bs σ' [] H' hn w' _ fun b H1 g1 w1 ⟨p, p'⟩ => ?_
  cases b with
  | true =>
    rw [if_pos rfl]
    refine ⟨fun σ2 H2 => ∃ m', m' < k ∧ ∃ ρ' g', World K I0 H0 bs ρ' [] g' σ2 [] H2 ∧ Iv m' ρ' g', fun σ2 H2 ⟨m', h, q⟩ => ⟨m', h, q⟩, p rfl I0 H0 bs σ' H1 _ hn w1 ⟨fun σ5 H5 ρ5 g5 w5 ⟨m', h, q⟩ => ⟨m', h, ρ5, g5, w5, q⟩, m.rt, m.nx, fun σ5 H5 ρ5 g5 w5 ⟨m', h, q⟩ => ⟨m', h, ρ5, g5, w5, q⟩⟩⟩
  | false =>
    rw [if_neg Bool.false_ne_true]
    exact m.nx σ' H1 ρ' g1 w1 (p' rfl)
end
/-! ### defs -/
theorem paired_start {K : PySem.W.Frag} {I : Hp} {as : List Addr} {N : List Str} {ws : List V} {ss : List SV} (r : Rels K I as (ws.map some) ss) : Rels K I as (L2.start N ws) (ss ++ List.replicate (N.length - ss.length) .no) := by
  have hl : ws.length = ss.length := by
    have := Paired.length r
    rw [List.length_map] at this
    exact this
  unfold L2.start
  rw [hl]
  refine Paired.app r ?_
  generalize N.length - ss.length = m
  induction m with
  | zero => exact .nil
  | succ m ih => exact .cons .no ih
def KF (m : Nat) (post : D → List Cell → Prop) : Ks := ⟨fun _ g' => post .none (g'.take m), fun s g' => ∃ d, s = .d d ∧ post d (g'.take m), fun _ _ => False, fun _ _ => False⟩
theorem gs_retF {K : PySem.W.Frag} {n m : Nat} {te : TE} {ρ : List SV} {g : List Cell} {post : D → List Cell → Prop} (h : GoD K n te ρ [] g fun d g' => post d (g'.take m)) : GoS K n (tRet te) ρ g (KF m post) := gs_ret (GoE.imp h fun s g' ⟨d, e, p⟩ => ⟨d, e, d, rfl, p⟩)
theorem fn_go {P : Program} {w : PySem.World} {K : PySem.W.Frag} {mg : Str → Option Value} {base : Heap} {x qual : Str} {st : Stmt} {f : Addr} {fd : FuncData} {N ps : List Str} {k : Nat} {R : RSpec} (F : Fun K x qual st f fd) (S : FnScope N ps (defScope st))
    (len : ∀ ss g post, R ss g post → ss.length = ps.length) {t : TS}
    (body : ∀ (cdv : Value) (A : Around) (outer : List Env) (s : Shared) (H : Hp) (E : XK), Room k (A.deeper (envOfC qual (defScope st) s.heap.objs.size f cdv)) →
      PSs (cxOf CX0 P w K mg base N qual (defScope st) f cdv A outer s H E).nox (defBody st) t)
    (go : ∀ ss g post, R ss g post → GoS K g.length t (ss ++ List.replicate (N.length - ss.length) .no) g (KF g.length post)) :
    FnOk P w K mg base CX0 (k + 1) f fd ps (spOf K R) := by
  refine F.ok S (fun vs H Q E h => ?_) (fun cdv A outer s H vs Q E hr h => ?_)
  · obtain ⟨I, as, ss, g, post, _, _, r, hR, _⟩ := h
    have := Paired.length r
    rw [List.length_map] at this
    exact this.trans (len ss g post hR)
  · refine ⟨t, body cdv A outer s H E hr, ?_⟩
    obtain ⟨I, as, ss, g, post, ex, ce, r, hR, q⟩ := h
    refine go ss g post hR I H as _ H _ ce.len ⟨I, [], Wd.mk (Fr.refl ex) (by rw [List.append_nil]; exact ce) (fun _ z => nomatch z) (by rw [List.append_nil]; exact paired_start r) .nil⟩ ⟨fun σ' H' ρ' g' ⟨I', ls, w'⟩ p => ?_, fun v σ' H' ρ' s' g' ⟨I', ls, w'⟩ ⟨d, e, p⟩ => ?_, fun _ _ _ _ _ p => p, fun _ _ _ _ _ p => p⟩
    · have c := w'.ce.take g.length
      rw [← ce.len, List.take_left'] at c
      · exact q .non I' H' .none _ w'.fr c .non (by rw [← ce.len] at p; exact p)
      · rfl
    · subst e
      have c := w'.ce.take g.length
      rw [← ce.len, List.take_left'] at c
      · obtain ⟨_, rr⟩ := w'.pop
        cases rr with
        | d i => exact q v I' H' d _ w'.fr c i (by rw [← ce.len] at p; exact p)
      · rfl
/-! ### a def that hands back a new list, the caller's own; arguments data or the script -/
abbrev NSpec := List SV → (List D → Prop) → Prop
def spNew (K : PySem.W.Frag) (R : NSpec) : Sp := fun ws H Q _ => ∃ I ss post, Ex I H ∧ Rels K I [] (ws.map some) ss ∧ R ss post ∧
  ∀ p I' H' vs ds, Fr [] I H I' H' → H p = none → I' p = none → H' p = some (.lst vs) → IsAll K I' vs ds → post ds → Q (.ref p) H'
def KN (post : List D → Prop) : Ks := ⟨fun _ _ => False, fun s g' => ∃ j ds, s = .c j ∧ g'[j]? = some (some ds) ∧ post ds, fun _ _ => False, fun _ _ => False⟩
theorem fn_goN {P : Program} {w : PySem.World} {K : PySem.W.Frag} {mg : Str → Option Value} {base : Heap} {x qual : Str} {st : Stmt} {f : Addr} {fd : FuncData} {N ps : List Str} {k : Nat} {R : NSpec} (F : Fun K x qual st f fd) (S : FnScope N ps (defScope st))
    (len : ∀ ss post, R ss post → ss.length = ps.length) {t : TS}
    (body : ∀ (cdv : Value) (A : Around) (outer : List Env) (s : Shared) (H : Hp) (E : XK), Room k (A.deeper (envOfC qual (defScope st) s.heap.objs.size f cdv)) →
      PSs (cxOf CX0 P w K mg base N qual (defScope st) f cdv A outer s H E).nox (defBody st) t)
    (go : ∀ ss post, R ss post → GoS K 0 t (ss ++ List.replicate (N.length - ss.length) .no) [] (KN post)) :
    FnOk P w K mg base CX0 (k + 1) f fd ps (spNew K R) := by
  refine F.ok S (fun vs H Q E h => ?_) (fun cdv A outer s H vs Q E hr h => ?_)
  · obtain ⟨I, ss, post, _, r, hR, _⟩ := h
    have := Paired.length r
    rw [List.length_map] at this
    exact this.trans (len ss post hR)
  · refine ⟨t, body cdv A outer s H E hr, ?_⟩
    obtain ⟨I, ss, post, ex, r, hR, q⟩ := h
    refine go ss post hR I H [] _ H _ rfl ⟨I, [], Wd.mk (Fr.refl ex) .nil (fun _ z => nomatch z) (paired_start r) .nil⟩ ⟨fun _ _ _ _ _ p => p.elim, fun v σ' H' ρ' s' g' ⟨I', ls, w'⟩ ⟨j, ds, e, hg, p⟩ => ?_, fun _ _ _ _ _ p => p, fun _ _ _ _ _ p => p⟩
    subst e
    obtain ⟨w2, rr⟩ := w'.pop
    cases rr with
    | @c a _ ha =>
      obtain ⟨ia, xs, hx, il⟩ := w2.ce.at ha hg
      exact q a I' H' xs ds w2.fr (w2.lo a (List.mem_of_getElem? ha)) ia hx il p
section
variable {K : PySem.W.Frag} {I0 H0 I I' H H' : Hp} {bs ls as : List Addr} {ρ ts : List SV} {g : List Cell} {σ : L2.St} {vs : List V} {n : Nat}
def NoC (ss : List SV) : Prop := ∀ s ∈ ss, ∀ j, s ≠ .c j
theorem rels_noC {bs : List Addr} : ∀ {ws : List (Option V)} {ss : List SV}, NoC ss → Rels K I as ws ss → Rels K I bs ws ss
  | _, [], _, .nil => .nil
  | _, s :: _, h, .cons r t => .cons (by
      cases r with
      | no => exact .no
      | d i => exact .d i
      | s i => exact .s i
      | @c _ j _ => exact absurd rfl (h _ List.mem_cons_self j)) (rels_noC (fun s m => h s (List.mem_cons_of_mem _ m)) t)
theorem ge_callN {R : NSpec} {E : XK} {ta : TA} {post : PostE} (h : GoA K n ta ρ ts g fun ss g1 => NoC ss ∧ R ss fun ds => post (.c g1.length) (g1 ++ [some ds])) : GoE K n (tCall (spNew K R) [] E ta) ρ ts g post := by
  intro I0 H0 bs σ vs H hn w Q q
  refine h I0 H0 bs σ vs H hn w _ fun ws H1 ss g1 hl ⟨I, ls, w1⟩ ⟨nc, p⟩ => ?_
  obtain ⟨w2, r2⟩ := w1.pops hl
  rw [List.append_nil]
  refine ⟨I, ss, _, w2.fr.ih, rels_noC nc r2, p, fun a I' H' xs ds f ha ia hx il pp => ?_⟩
  have w3 := w2.step f
  have h0a : H0 a = none := by
    cases z : H0 a with
    | none => rfl
    | some o => exact absurd ha (w2.fr.dm a (by rw [z]; exact fun y => nomatch y))
  have na : a ∉ bs ++ ls := fun m => w2.ce.in_ a m ha
  have hj : (bs ++ (ls ++ [a]))[g1.length]? = some a := by
    rw [← List.append_assoc, ← w3.ce.len, List.getElem?_append_right (Nat.le_refl _), Nat.sub_self]
    rfl
  have up : ∀ (j : Nat) p, (bs ++ ls)[j]? = some p → (bs ++ (ls ++ [a]))[j]? = some p := fun j p e => by
    rw [← List.append_assoc, List.getElem?_append_left (List.getElem?_eq_some_iff.mp e).1]
    exact e
  refine q (.ref a) H' (.c g1.length) _ ⟨I', ls ++ [a], ⟨w3.fr, ?_, fun b m => ?_, Paired.imp (fun _ _ r => r.mono (Ex.refl I') up) w3.rs, .cons (.c hj) (Paired.imp (fun _ _ r => r.mono (Ex.refl I') up) w3.rv)⟩⟩ pp
  · rw [← List.append_assoc]
    exact Cells.snoc ia hx il na w3.ce
  · rcases List.mem_append.mp m with m | m
    · exact w3.lo b m
    · rw [List.mem_singleton] at m
      rw [m]; exact h0a
end
end Go
/-! Sets of whole numbers and texts, made of a list, and sorted. -/
namespace SetMix
open PySem PySem.Spec PyProof.Rows L2
def keyAt : Value → Key
  | .int k _ => .inl k
  | .str x _ => .inr x
  | _ => .inl 0
def Fit (wd : World) (e : Int × Value) : Prop := keyIs (keyAt e.2) e.2 = true ∧ e.1 = keyH wd (keyAt e.2) ∧ e.2.scannable = true
def inK (ks : List Key) (j : Key) : Bool := ks.any fun x => decide (j = x)
theorem inK_iff {ks : List Key} {j : Key} : inK ks j = true ↔ j ∈ ks := by
  unfold inK
  rw [List.any_eq_true]
  constructor
  · rintro ⟨x, hx, e⟩
    exact of_decide_eq_true e ▸ hx
  · exact fun h => ⟨j, h, decide_eq_true rfl⟩
abbrev keysOf (l : List (Int × Value)) : List Key := l.map fun e => keyAt e.2
def Tab (wd : World) (hp : Heap) (a : Addr) (S : Key → Bool) (m : Nat) : Prop :=
  ∃ ob es ep tb, hp.get? a = some ob ∧ ob.ExactSet ∧ ob.data = .set es ep tb ∧ (∀ e ∈ es.toList, Fit wd e) ∧ (keysOf es.toList).Nodup ∧ (∀ k, S k = true ↔ k ∈ keysOf es.toList) ∧
    es.size < scanBound ∧ tb.fits es.size = true ∧ es.size = m ∧ Ris tb.place.toList ∧ (wd.params.followText "set-order" = true ∨ tb.led = true)
section
variable {P : Program} {wd : World} {A : Around} {E : Value → Shared → Prop} {st : Shared} {a : Addr} {S : Key → Bool} {m : Nat}
theorem keyAt_of {k : Key} {v : Value} (h : keyIs k v = true) : keyAt v = k := by
  rcases keyIs_shape h with ⟨i, t, rfl, rfl⟩ | ⟨x, t, rfl, rfl⟩ <;> rfl
theorem Tab.keep {hp hq : Heap} (T : Tab wd hp a S m) (k : ∀ ob, hp.get? a = some ob → hq.get? a = some ob) : Tab wd hq a S m := by
  obtain ⟨ob, es, ep, tb, h1, rest⟩ := T
  exact ⟨ob, es, ep, tb, k ob h1, rest⟩
theorem Tab.same {hp : Heap} {S' : Key → Bool} (T : Tab wd hp a S m) (e : ∀ k, S' k = S k) : Tab wd hp a S' m := (funext e : S' = S) ▸ T
theorem fit_elems {l : List (Int × Value)} (f : ∀ e ∈ l, Fit wd e) : ElemsOf (mixKind P wd) l := fun e he => ⟨⟨keyAt e.2, (f e he).1, (f e he).2.1⟩, (f e he).2.2⟩
theorem fit_mem {l : List (Int × Value)} (f : ∀ e ∈ l, Fit wd e) (k : Key) : k ∈ keysOf l ↔ ∃ e ∈ l, (mixKind P wd).is k e.2 = true := by
  constructor
  · intro h
    obtain ⟨e, he, q⟩ := List.mem_map.mp h
    exact ⟨e, he, by rw [← q]; exact (f e he).1⟩
  · rintro ⟨e, he, q⟩
    exact List.mem_map.mpr ⟨e, he, keyAt_of q⟩
theorem tab_tail {gw : Bool → Sem Unit} (hg : ∀ (b : Bool) (s1 : Shared) (Q1 : Unit → Shared → Prop), Q1 () s1 → wpAny (model P wd) A (gw b) Q1 E s1)
    {ob : Obj} {es : Array (Int × Value)} {ep : Nat} {tb : SetTable} (h1 : st.heap.get? a = some ob) (hx : ob.ExactSet) (hd : ob.data = .set es ep tb)
    {e1 : Array (Int × Value)} {t2 : SetTable} {S' : Key → Bool} (f1 : ∀ e ∈ e1.toList, Fit wd e) (n1 : (keysOf e1.toList).Nodup) (m1 : ∀ k, S' k = true ↔ k ∈ keysOf e1.toList)
    (b1 : e1.size < scanBound) (f2 : t2.fits e1.size = true) (r2 : Ris t2.place.toList) (l2 : wd.params.followText "set-order" = true ∨ t2.led = true) {dm : Bool} {R : Option Bool → Shared → Prop}
    (hR : ∀ hq, Heap.SameBut a st.heap hq → Tab wd hq a S' e1.size → R (some true) { st with heap := hq }) :
    wpAny (model P wd) A (do
        storeSet a e1 t2
        if (!dm && t2.tooFull) = true then do
            gw (relayAll t2 e1 (SetTable.grown e1.size)).2.2
            storeSet a (relayAll t2 e1 (SetTable.grown e1.size)).1 (relayAll t2 e1 (SetTable.grown e1.size)).2.1
            pure (some true)
          else pure (some true)) R E st := by
  refine wpAny_bind (wpAny_storeSet_of h1 hd ?_ (fits_of_scanBound b1))
  have g1 := store_at (es' := e1) (t' := t2) h1 hd
  have u1 := Heap.SameBut.update st.heap a (Obj.putSet e1 t2)
  split
  · have p3 := relayAll_perm t2 e1 (SetTable.grown e1.size)
    have q3 := relayAll_fits t2 e1 (SetTable.grown e1.size)
    have r3 := relayAll_ris t2 e1 (SetTable.grown e1.size)
    have l3 := relayAll_led t2 e1 (SetTable.grown e1.size)
    generalize relayAll t2 e1 (SetTable.grown e1.size) = Z at p3 q3 r3 l3 ⊢
    obtain ⟨e2, t3, gv⟩ := Z
    dsimp only at p3 q3 r3 l3 ⊢
    have z2 : e2.size = e1.size := by rw [← Array.length_toList, p3.length_eq, Array.length_toList]
    have b2 : e2.size < scanBound := by rw [z2]; exact b1
    refine wpAny_bind (hg _ _ _ ?_)
    refine wpAny_bind (wpAny_storeSet_of g1 rfl ?_ (fits_of_scanBound b2))
    have g2 := store_at (es' := e2) (t' := t3) g1 rfl
    refine wpAny_pure (hR _ (u1.trans (Heap.SameBut.update _ a _)) ?_)
    refine ⟨_, e2, _, t3, g2, hx, rfl, fun e he => f1 e (p3.mem_iff.mp he), (p3.map _).nodup_iff.mpr n1, fun k => (m1 k).trans (p3.map _).mem_iff.symm, b2, q3, z2, r3, ?_⟩
    rcases l2 with z | z
    · exact .inl z
    · exact .inr (by rw [l3]; exact z)
  · exact wpAny_pure (hR _ u1 ⟨_, e1, _, t2, g1, hx, rfl, f1, n1, m1, b1, f2, rfl, r2, l2⟩)
theorem tab_add {k : Key} {v : Value} (hv : keyIs k v = true) {Q : Bool → Shared → Prop} (T : Tab wd st.heap a S m) (room : m + 1 < scanBound)
    (hQ : ∀ hq, Heap.SameBut a st.heap hq → Tab wd hq a (fun j => S j || decide (j = k)) (if S k = true then m else m + 1) → Q (!S k) { st with heap := hq }) :
    wpAny (model P wd) A (setAddHashed a v ((mixKind P wd).hash k)) Q E st := by
  obtain ⟨ob, es, ep, tb, h1, hx, hd, fi, nd, hm, hb, hf, hn, hr, hl⟩ := T
  have hsc : v.scannable = true := by rcases keyIs_shape hv with ⟨i, t, rfl, rfl⟩ | ⟨x, t, rfl, rfl⟩ <;> rfl
  have hel : ElemsOf (mixKind P wd) es.toList := fit_elems fi
  unfold setAddHashed setAddHashedIn
  refine wpAny_holding (wpAny_bind (wpAny_setState_of h1 hd hf ?_))
  dsimp only
  rw [byScan_of hsc hb hel]
  simp only [↓reduceIte]
  unfold setAddByScan
  refine wpAny_bind ?_
  refine wpAny_bind (wpAny_rule ?_)
  refine wpAny_bind (wpAny_setScan_of (knd := mixKind P wd) (k := k) hv h1 hd hf hel ?_)
  cases hfi : List.findIdx? (fun e => (mixKind P wd).is k e.2) es.toList with
  | some j =>
    dsimp only
    obtain ⟨hj, pj, _⟩ := List.findIdx?_eq_some_iff_getElem.mp hfi
    have hSk : S k = true := (hm k).2 ((fit_mem (P := P) fi k).2 ⟨_, List.getElem_mem hj, pj⟩)
    refine wpAny_pure (wpAny_pure ?_)
    have q := hQ st.heap (Heap.SameBut.refl a st.heap) ⟨ob, es, ep, tb, h1, hx, hd, fi, nd, fun i => by
      rw [Bool.or_eq_true, decide_eq_true_eq, ← hm i]
      exact ⟨fun z => z.elim id (fun e => e ▸ hSk), .inl⟩, hb, hf, by rw [if_pos hSk]; exact hn, hr, hl⟩
    rw [hSk] at q
    exact q
  | none =>
    dsimp only
    have hnk : k ∉ keysOf es.toList := fun z => by
      obtain ⟨e, he, q⟩ := (fit_mem (P := P) fi k).1 z
      have c := List.findIdx?_eq_none_iff.mp hfi e he
      rw [q] at c
      cases c
    have hSk : S k = false := by
      cases q : S k with
      | false => rfl
      | true => exact absurd ((hm k).1 q) hnk
    have hgw : ∀ (b : Bool) {s1 : Shared} {Q1 : Unit → Shared → Prop}, Q1 () s1 → wpAny (model P wd) A (match b with | true => rule "set.scan.the-table-gave-way" | false => pure ()) Q1 E s1 := fun b s1 Q1 q => by
      cases b <;> first | exact wpAny_pure q | exact wpAny_rule q
    have p1 := layNew_perm tb es ((mixKind P wd).hash k) v
    have q1 := layNew_fits tb es ((mixKind P wd).hash k) v
    have r1 := layNew_ris tb es ((mixKind P wd).hash k) v hr
    have l1 := layNew_led tb es ((mixKind P wd).hash k) v
    generalize layNew tb es ((mixKind P wd).hash k) v = Z at p1 q1 r1 l1 ⊢
    obtain ⟨e1, t1, dm, gv⟩ := Z
    dsimp only at p1 q1 r1 l1 ⊢
    rw [Array.toList_push] at p1
    have pc : e1.toList.Perm (((mixKind P wd).hash k, v) :: es.toList) := p1.trans (List.perm_append_singleton _ _)
    have ek : keyAt v = k := keyAt_of hv
    have pk : (keysOf e1.toList).Perm (k :: keysOf es.toList) := by
      have z := pc.map fun e => keyAt e.2
      rw [List.map_cons] at z
      rw [← ek]
      exact z
    have f1 : ∀ e ∈ e1.toList, Fit wd e := fun e he => by
      rcases List.mem_cons.mp (pc.mem_iff.mp he) with z | z
      · rw [z]
        exact ⟨by show keyIs (keyAt v) v = true; rw [ek]; exact hv, by show keyH wd k = keyH wd (keyAt v); rw [ek], hsc⟩
      · exact fi e z
    have n1 : (keysOf e1.toList).Nodup := pk.nodup_iff.mpr (List.nodup_cons.mpr ⟨hnk, nd⟩)
    have m1 : ∀ i, (S i || decide (i = k)) = true ↔ i ∈ keysOf e1.toList := fun i => by
      rw [Bool.or_eq_true, decide_eq_true_eq, hm i, pk.mem_iff, List.mem_cons]
      exact Or.comm
    have z1 : e1.size = m + 1 := by rw [← Array.length_toList, pc.length_eq, List.length_cons, Array.length_toList, hn]
    have b1 : e1.size < scanBound := by rw [z1]; exact room
    have le1 : wd.params.followText "set-order" = true ∨ t1.led = true := by
      rcases hl with z | z
      · exact .inl z
      · exact .inr (by rw [l1]; exact z)
    have fin : ∀ hq, Heap.SameBut a st.heap hq → Tab wd hq a (fun j => S j || decide (j = k)) e1.size → Q true { st with heap := hq } := fun hq sb r => by
      have q := hQ hq sb
      rw [hSk] at q
      rw [z1] at r
      exact q r
    refine wpAny_bind (hgw _ ?_)
    split
    · refine wpAny_bind ?_
      rw [hashByValue_scannable 8 hsc]
      refine wpAny_pure ?_
      refine tab_tail ?_ h1 hx hd f1 n1 m1 b1 ?_ ?_ ?_ ?_
      · intro b s1 Q1 q; cases b <;> first | exact wpAny_pure q | exact wpAny_rule q
      · first | (split <;> first | exact q1 | exact SetTable.fits_plain_off q1) | exact q1
      · first | (split <;> exact r1) | exact r1
      · first | (split <;> exact le1) | exact le1
      · intro hq sb r; dsimp only; exact wpAny_pure (fin hq sb r)
    · refine wpAny_bind (wpAny_pure ?_)
      simp only [↓reduceIte]
      refine tab_tail ?_ h1 hx hd f1 n1 m1 b1 q1 r1 le1 ?_
      · intro b s1 Q1 q; cases b <;> first | exact wpAny_pure q | exact wpAny_rule q
      · intro hq sb r; dsimp only; exact wpAny_pure (fin hq sb r)
end
theorem tab_new {wd : World} {hp : Heap} {a : Addr} {ks : List Key} (ho : hp.get? a = some { cls := .type "set", dict := none, data := .set #[] 0 (.fresh 0 0 (!wd.params.followText "set-order")) }) : Tab wd hp a (fun j => inK (ks.take 0) j) 0 := by
  refine ⟨_, #[], 0, _, ho, ⟨rfl, rfl, rfl⟩, rfl, fun e he => ?_, ?_, fun k => ?_, by decide, by rfl, rfl, List.Pairwise.nil, ?_⟩
  · simp at he
  · simp [keysOf]
  · simp [keysOf, inK]
  · show wd.params.followText "set-order" = true ∨ (!wd.params.followText "set-order") = true
    cases wd.params.followText "set-order"
    · exact .inr rfl
    · exact .inl rfl
/-- the values of a list are these keys -/
def KeysAre (vs : List Value) (ks : List Key) : Prop := Paired (fun v k => keyIs k v = true) vs ks
section
variable {P : Program} {wd : World} {A : Around} {E : Value → Shared → Prop} {st : Shared}
theorem upd_loop {I : Addr} {fp wr : List Addr} {G : Array GenState → Array GenState → Prop} {n : Nat} {Pv : Nat → Value → Prop} {St : Nat → Shared → Prop} {R : Result → Shared → Prop}
    (W : WalksS P wd A.in1 I fp wr G n Pv St) (a : Addr) (hSf : a ∉ fp) (ks : List Key) (hn : n = ks.length) (hb : ks.length + 1 < scanBound) (hval : ∀ i v, Pv i v → ∃ k, ks[i]? = some k ∧ keyIs k v = true) :
    ∀ (q i : Nat) (s : Shared), n - i = q → i ≤ n → St i s → (∃ c, c ≤ i ∧ Tab wd s.heap a (fun j => inK (ks.take i) j) c) →
      (∀ s' c, Moved (a :: wr) G s s' → c ≤ n → Tab wd s'.heap a (fun j => inK ks j) c → R (.ok (.ret .none)) s') →
      codeAny (model P wd) A (.builtin "set.update.loop" ⟨[.ref a, .ref I], []⟩) R s := by
  have naw : a ∉ wr := fun h => hSf (W.sub _ h)
  have sub1 : ∀ b ∈ wr, b ∈ a :: wr := fun b h => List.mem_cons_of_mem _ h
  intro q
  induction q with
  | zero =>
    intro i s hq hi hst ⟨c, hc, hT⟩ hR
    have e0 : i = n := by omega
    subst e0
    refine codeAny_builtin F.entry_set_update_loop ?_
    rw [Around.under_plainId F.plain_set_update_loop _]
    show wpAny _ A.in1 (pyNext (.ref I) >>= _) _ _ s
    refine wpAny_bind (W.done s _ _ hst fun s' hm => ?_)
    show wpAny _ A.in1 (ret Value.none) _ _ s'
    have e : ks.take i = ks := List.take_of_length_le (by omega)
    rw [e] at hT
    exact wpAny_pure (hR s' c (hm.mono sub1) hc (hT.keep fun o e => hm.heap a o naw e))
  | succ q ih =>
    intro i s hq hi hst ⟨c, hc, hT⟩ hR
    have hlt : i < n := by omega
    refine codeAny_builtin F.entry_set_update_loop ?_
    rw [Around.under_plainId F.plain_set_update_loop _]
    show wpAny _ A.in1 (pyNext (.ref I) >>= _) _ _ s
    refine wpAny_bind (W.item i s _ _ hlt hst fun v s' hP hst' hm => ?_)
    obtain ⟨k, hk, kv⟩ := hval i v hP
    have hT' : Tab wd s'.heap a (fun j => inK (ks.take i) j) c := hT.keep fun o e => hm.heap a o naw e
    show wpAny _ A.in1 (holding [v] (setAdd a v) >>= _) _ _ s'
    refine wpAny_bind (wpAny_holding ?_)
    unfold setAdd
    refine wpAny_holding ?_
    refine wpAny_bind ((mixKind P wd).pyHash (k := k) kv ?_)
    refine tab_add (st := { s' with toks := s'.toks + 1 }) kv hT' (by omega) fun hq sb T2 => ?_
    have T3 : Tab wd hq a (fun j => inK (ks.take (i + 1)) j) (if inK (ks.take i) k = true then c else c + 1) := T2.same fun j => by
      rw [List.take_add_one, hk]
      simp [inK]
    have c3 : (if inK (ks.take i) k = true then c else c + 1) ≤ i + 1 := by split <;> omega
    refine wpAny_pure ⟨plainId_quiet F.plain_set_update_loop _, ih (i + 1) _ (by omega) hlt (W.frame _ s' _ _ hst' (Nat.le_succ _) fun b hb o e => ?_) ⟨_, c3, T3⟩ fun s2 c2 m2 h2 t2 => ?_⟩
    · rw [sb.2 b (fun h : b = a => hSf (h ▸ hb))]; exact e
    · refine hR s2 c2 (Moved.trans W.gtrans ((hm.mono sub1).then_heap (Nat.le_succ _) fun b o hb e => ?_) m2) h2 t2
      rw [sb.2 b (fun h : b = a => hb (h ▸ List.mem_cons_self))]; exact e
end
end SetMix
namespace SetMix
open PySem PySem.Spec PyProof.Rows L2
abbrev freshSet (wd : World) : Obj := { cls := .type "set", dict := none, data := .set #[] 0 (.fresh 0 0 (!wd.params.followText "set-order")) }
section
variable {P : Program} {wd : World} {A : Around} {E : Value → Shared → Prop} {st : Shared}
/-- set(l), l a list of whole numbers and texts -/
theorem call_set_keys {l : Addr} {items : Array Value} (ks : List Key) {Q : Value → Shared → Prop} (hh : A.handled = none) (hl : st.heap.IsList l items) (hit : KeysAre items.toList ks) (hb : ks.length + 1 < scanBound)
    (h : ∀ (hq : Heap) (tk c : Nat), Tab wd hq st.heap.objs.size (fun j => inK ks j) c → c ≤ ks.length → (∀ b o, st.heap.get? b = some o → hq.get? b = some o) → Q (.ref st.heap.objs.size) { st with heap := hq, toks := tk }) :
    wpAny (model P wd) A (call (.type "set") [.ref l]) Q E st := by
  have hisz : items.size = ks.length := by
    have q := Paired.length hit
    rw [Array.length_toList] at q
    exact q
  obtain ⟨_, _, mro1⟩ := F.called_set.mro
  have made1 := F.called_set.made
  have sub1 := F.called_set.sub
  refine wpAny_call (codeAny_of_tree ?_)
  show wpAny _ _ (callAny (.type "set") _) _ _ _
  refine wpAny_pure ⟨Code.quiet_builtin _ (by decide +kernel), codeAny_builtin F.entry_type_call ?_⟩
  rw [Around.under_plain (weight_type_call_type "set" [.ref l] []) rfl]
  have nt1 := F.called_set.notType
  have cc1 := F.called_set.canCreate
  have tc1 := F.typeCall_set_1 (.ref l)
  repeat (any_goals (first | assumption | wp_step))
  refine codeAny_mono (code_set_led1 (.ref l) (E := E) (Q₁ := fun obj s1 => obj = .ref st.heap.objs.size ∧ s1 = { st with heap := st.heap.push (freshSet wd) }) ⟨rfl, rfl⟩) fun r s1 hr => ?_
  cases r with
  | error e => exact hr
  | ok fl =>
    cases fl with
    | ret obj =>
      obtain ⟨rfl, rfl⟩ := hr
      have gS : (st.heap.push (freshSet wd)).get? st.heap.objs.size = some (freshSet wd) := Heap.get?_push_size _ rfl
      have tS : Shared.TypeIs { st with heap := st.heap.push (freshSet wd) } (.ref st.heap.objs.size) "set" := ⟨_, gS, rfl⟩
      have li1 := F.called_set.init.lookup
      have bi1 := F.called_set.init.bind (.ref st.heap.objs.size)
      repeat (any_goals (first | assumption | wp_step))
      refine codeAny_mono (codeAny_call_builtin (R := wants (fun r s2 => r = .none ∧ ∃ hq tk c, s2 = { st with heap := hq, toks := tk } ∧ Tab wd hq st.heap.objs.size (fun j => inK ks j) c ∧ c ≤ ks.length ∧
          (∀ b o, st.heap.get? b = some o → hq.get? b = some o)) E) F.called_set.init.plain F.entry_set_init (check_set_init_1 tS ?_)) fun r2 s2 hr2 => ?_
      · obtain ⟨ol, hol, hcl, nl, hdl⟩ := hl
        obtain ⟨oc, od, oda, osl⟩ := ol
        simp only at hcl hdl
        subst hcl; subst hdl
        have hol' : (st.heap.push (freshSet wd)).get? l = some { cls := .type "list", dict := od, data := .seq items nl, slots := osl } := Heap.get?_push_of_some _ hol
        have ls1 := F.sub_list_set
        have lf1 := F.sub_list_frozenset
        have ne1 : (Value.type "list" == Value.type "dict") = false := by decide
        have hl1 : (st.heap.push (freshSet wd)).IsList l items := ⟨_, hol', rfl, nl, rfl⟩
        unfold Builtin.«set.__init__» noKeywords Builtin.Frozenset.updateFrom
        generalize hPI : pyIter = PI
        wp_walk
        subst hPI
        refine wpAny_pyIter_list hl1 ?_
        refine wpAny_bind (wpAny_runValue ?_)
        have lt1 : l < st.heap.objs.size := Heap.lt_size hol
        have hh3 : A.in1.in1.in1.handled = none := by simp [hh]
        have neI : l ≠ (st.heap.push (freshSet wd)).objs.size := by rw [Heap.size_push]; exact Nat.ne_of_lt (Nat.lt_succ_of_lt lt1)
        have nSf : st.heap.objs.size ∉ [(st.heap.push (freshSet wd)).objs.size, l] := by
          rw [Heap.size_push]
          intro z
          rcases List.mem_cons.mp z with z | z
          · exact absurd z (Nat.ne_of_lt (Nat.lt_succ_self _))
          · rw [List.mem_singleton] at z
            exact absurd z (Nat.ne_of_gt lt1)
        have hval : ∀ (i : Nat) (v : Value), items[i]? = some v → ∃ k, ks[i]? = some k ∧ keyIs k v = true := fun i v hv => by
          have hi : i < ks.length := by rw [← hisz]; exact (Array.getElem?_eq_some_iff.mp hv).1
          obtain ⟨v', e, q⟩ := Go.Paired.get hit (List.getElem?_eq_getElem hi)
          rw [Array.getElem?_toList, hv] at e
          cases e
          exact ⟨_, List.getElem?_eq_getElem hi, q⟩
        refine upd_loop ((Walks.list hh3 _ l neI items).toS) st.heap.objs.size nSf ks hisz hb hval (items.size - 0) 0 _ (by omega) (Nat.zero_le _) ⟨⟨_, Heap.get?_push_size _ rfl, rfl, rfl⟩, (hl1.push _)⟩ ?start ?fin
        case start => exact ⟨0, Nat.le_refl 0, tab_new (Heap.get?_push_of_some _ gS)⟩
        case fin =>
          intro s' c' hm hc' hT'
          obtain ⟨h2, g2, d2, tk2, os2⟩ := s'
          have eg : g2 = st.gens := hm.gens
          have ed : d2 = st.drawn := hm.drawn
          have eo : os2 = st.os := hm.os
          subst eg; subst ed; subst eo
          show wpAny _ _ _ _ _ _
          refine wpAny_pure ?_
          show wpAny _ _ (ret Value.none) _ _ _
          rw [hisz] at hc'
          refine wpAny_pure ⟨rfl, h2, tk2, c', rfl, hT', hc', fun b o e => ?_⟩
          have b0 : b < st.heap.objs.size := Heap.lt_size e
          refine hm.heap b o (fun z => ?_) (Heap.get?_push_of_some _ (Heap.get?_push_of_some _ e))
          rcases List.mem_cons.mp z with z | z
          · exact absurd z (Nat.ne_of_lt b0)
          · rw [List.mem_singleton, Heap.size_push] at z
            exact absurd z (Nat.ne_of_lt (Nat.lt_succ_of_lt b0))
      · cases r2 with
        | error e => exact hr2
        | ok fl2 =>
          cases fl2 with
          | ret r =>
            obtain ⟨rfl, hq, tk, c', rfl, hT', hc', hk'⟩ := hr2
            repeat (any_goals (first | assumption | wp_step))
            exact h _ _ _ hT' hc' hk'
          | _ => exact hr2.elim
    | _ => exact hr.elim
/-! ### sorted(s) -/
def dK : Key → PyData := Go.kD
theorem reads_key {h : Heap} {k : Key} {v : Value} (e : keyIs k v = true) : ∃ as, Reads h v (dK k) as := by
  rcases keyIs_shape e with ⟨i, t, rfl, rfl⟩ | ⟨x, t, rfl, rfl⟩
  · exact ⟨_, Reads.int i t⟩
  · exact ⟨_, Reads.str x t⟩
/-- all of one kind -/
def OneKind (ks : List Key) : Prop := (∀ k ∈ ks, ∃ i, k = .inl i) ∨ ∀ k ∈ ks, ∃ x, k = .inr x
theorem alike_keys {ks : List Key} (h : OneKind ks) : PySem.W.AllAlike (ks.map dK) := by
  intro d hd d' hd'
  obtain ⟨k, hk, rfl⟩ := List.mem_map.mp hd
  obtain ⟨k', hk', rfl⟩ := List.mem_map.mp hd'
  rcases h with h | h
  · obtain ⟨i, rfl⟩ := h k hk
    obtain ⟨j, rfl⟩ := h k' hk'
    rfl
  · obtain ⟨i, rfl⟩ := h k hk
    obtain ⟨j, rfl⟩ := h k' hk'
    rfl
theorem sortable_keys (ks : List Key) : PySem.W.Sortable (ks.map dK) := PySem.W.Sortable.others fun k => by
  cases k with
  | inl i => exact ⟨(fun z => nomatch z), (fun xs z => nomatch z)⟩
  | inr i => exact ⟨(fun z => nomatch z), (fun xs z => nomatch z)⟩
theorem each_keys2 : ∀ {vs : List Value} {ks : List Key}, KeysAre vs ks → PySem.W.EachIs (fun v k => keyIs k v = true) vs ks
  | _, _, .nil => .nil
  | _, _, .cons h t => .cons h (each_keys2 t)
theorem keys_each2 : ∀ {vs : List Value} {ks : List Key}, PySem.W.EachIs (fun v k => keyIs k v = true) vs ks → KeysAre vs ks
  | _, _, .nil => .nil
  | _, _, .cons h t => .cons h (keys_each2 t)
theorem keysAre_at : ∀ (l : List Value), (∀ v ∈ l, keyIs (keyAt v) v = true) → KeysAre l (l.map keyAt)
  | [], _ => .nil
  | v :: l, h => .cons (h v List.mem_cons_self) (keysAre_at l fun u hu => h u (List.mem_cons_of_mem _ hu))
theorem sorted_tab {a : Addr} {S : Key → Bool} {m : Nat} {Q : Value → Shared → Prop} (T : Tab wd st.heap a S m) (hh : A.handled = none) (hu : A.units + 8 < cLine) (one : ∀ ks : List Key, (∀ k ∈ ks, S k = true) → OneKind ks)
    (hQ : ∀ s' p (out : List Value) (c : Nat) (ks ks0 : List Key), (∀ b o, st.heap.get? b = some o → s'.heap.get? b = some o) → s'.gens = st.gens → s'.os = st.os → st.heap.objs.size ≤ p →
      s'.heap.get? p = some (seqObj "list" out.toArray c) → KeysAre out ks → ks = ks0.mergeSort (PySem.W.dataLe false dK) → ks0.Nodup → (∀ k, k ∈ ks0 ↔ S k = true) → ks0.length = m → Q (.ref p) s') :
    wpAny (model P wd) A (call (.builtin "sorted") [.ref a]) Q E st := by
  obtain ⟨ob, es, ep, tb, h1, hx, hd, fi, nd, hm, hb, hf, hn, hr, hl⟩ := T
  refine Calls.call_function_entry kind_sorted plain_sorted entry_sorted (args_sorted1 _) ?_
  unfold Builtin.«sorted»
  refine wpAny_bind (m := checkCount "sorted" 1 1 _) (wpAny_pure ?_)
  refine wpAny_bind (collect_set (A := A.in1) hh ⟨ob, h1, hx.1, hd⟩ hf hb hr hl fun s1 vs k1 z1 g1 o1 pm => ?_)
  have lv : vs.length = m := by rw [pm.length_eq, List.length_map, Array.length_toList]; exact hn
  have sz : vs.length ≤ sizeLine := by
    rw [lv, ← hn, sizeLine_eq]
    unfold scanBound at hb
    omega
  have kv : KeysAre vs (vs.map keyAt) := keysAre_at vs fun v hv => by
    obtain ⟨e, he, q⟩ := List.mem_map.mp (pm.mem_iff.mp hv)
    rw [← q]
    exact (fi e he).1
  have pk : (vs.map keyAt).Perm (keysOf es.toList) := by
    have q := pm.map keyAt
    rw [List.map_map] at q
    exact q
  have mem : ∀ k, k ∈ vs.map keyAt ↔ S k = true := fun k => by rw [pk.mem_iff, hm k]
  have ok1 : OneKind (vs.map keyAt) := one _ fun k hk => (mem k).1 hk
  refine wpAny_bind (wpAny_newList ?_ sz)
  have oL : (s1.heap.push (seqObj "list" vs.toArray 0)).get? s1.heap.objs.size = some (seqObj "list" vs.toArray 0) := Heap.get?_push_size _ rfl
  have er : ∀ h : Heap, PySem.W.EachIs (fun v k => ∃ as, Reads h v (dK k) as) vs (vs.map keyAt) := fun h => (each_keys2 kv).mono fun _ _ e => reads_key e
  refine wpAny_bind (wpAny_holding (wpAny_call_entry slot_list_sort ⟨_, oL, rfl⟩ entry_list_sort ?_ (args_list_sort _)))
  refine PySem.W.list_sort_vals (s := { s1 with heap := s1.heap.push (seqObj "list" vs.toArray 0) }) oL (PySem.W.SortsAt.data (PySem.W.each_map (R := fun v d => ∃ as, Reads _ v d as) dK (er _)) (alike_keys ok1) (sortable_keys _) ?_) sz ⟨_, rfl, ?_⟩
  · intro d hd2
    obtain ⟨k, _, rfl⟩ := List.mem_map.mp hd2
    have : (dK k).depth = 0 := by cases k <;> simp [dK, Go.kD, PyData.depth]
    rw [this]
    show A.units + 2 + 0 < cLine
    omega
  · have eo := PySem.W.sortVals_data (h' := PySem.W.sortingHeap (s1.heap.push (seqObj "list" vs.toArray 0)) s1.heap.objs.size vs) false (each_keys2 kv) (er _) (alike_keys ok1)
    obtain ⟨c, hc⟩ := sortedHeap_at (vs := vs) (out := (PySem.W.sortVals (PySem.W.dataKind (PySem.W.sortingHeap (s1.heap.push (seqObj "list" vs.toArray 0)) s1.heap.objs.size vs) ((vs.map keyAt).map dK)) false vs vs).toArray) oL
    refine wpAny_pure ⟨_, rfl, hQ _ s1.heap.objs.size _ c _ (vs.map keyAt) (fun b u e => ?_) g1 o1 z1 hc (keys_each2 eo) rfl (pk.nodup_iff.mpr nd) mem (by rw [List.length_map]; exact lv)⟩
    have q := k1 b u e
    have lt2 := Heap.lt_size q
    show (sortedHeap (s1.heap.push (seqObj "list" vs.toArray 0)) s1.heap.objs.size vs _).get? b = some u
    rw [sortedHeap_old (Nat.ne_of_lt lt2) (by rw [size_push']; exact Nat.lt_succ_of_lt lt2)]
    exact Heap.get?_push_of_some _ q
end
end SetMix
/-! zip of two and three, enumerate, over lists and tuples in any mix; the new tuples tracked. -/
namespace ZipE
open PySem PySem.Spec PyProof.Rows L2
def SqK (K : PySem.W.Frag) (H : Hp) : Bool → Addr → List V → Prop
  | true, a, xs => SqT K H a xs
  | false, a, xs => SqL K H a xs
def itAt : Bool → Heap → Addr → Addr → Nat → Prop
  | true, h, it, a, i => h.IsTupleIter it a i
  | false, h, it, a, i => h.IsListIter it a i
def isSeq : Bool → Heap → Addr → Array Value → Prop
  | true, h, a, its => h.IsTuple a its
  | false, h, a, its => h.IsList a its
def itObj : Bool → Addr → Obj
  | true, a => { cls := .type "tuple_iterator", data := .fields #[.ref a, .int 0 0] }
  | false, a => { cls := .type "list_iterator", data := .fields #[.ref a, .int 0 0] }
theorem itAt_new {k : Bool} {h : Heap} {it a : Addr} (e : h.get? it = some (itObj k a)) : itAt k h it a 0 := by
  cases k
  · exact ⟨_, e, rfl, rfl⟩
  · exact ⟨_, e, rfl, rfl⟩
theorem itAt_ob {k : Bool} {h : Heap} {it a : Addr} {i : Nat} (x : itAt k h it a i) : ∃ o, h.get? it = some o ∧ ∀ v, o.data ≠ .cell v := by
  cases k
  · obtain ⟨o, e, _, d⟩ := x
    exact ⟨o, e, fun v q => by rw [d] at q; cases q⟩
  · obtain ⟨o, e, _, d⟩ := x
    exact ⟨o, e, fun v q => by rw [d] at q; cases q⟩
theorem itAt_keep {k : Bool} {h h' : Heap} {it a : Addr} {i : Nat} (x : itAt k h it a i) (f : ∀ o, h.get? it = some o → h'.get? it = some o) : itAt k h' it a i := by
  cases k
  · exact Heap.IsListIter.at x f
  · exact Heap.IsTupleIter.at x f
theorem drawK {P : Program} {w : World} {A : Around} (hh : A.handled = none) (k : Bool) (it a : Addr) (hne : a ≠ it) (its : Array Value) :
    Draws P w A it [it, a] its.size (fun i v => its[i]? = some v) (fun i h => itAt k h it a i ∧ isSeq k h a its) := by
  cases k
  · exact Draws.list hh it a hne its
  · exact Draws.tuple hh it a hne its
theorem beginK (k : Bool) (a : Addr) (its : Array Value) : Begins (.ref a) (itObj k a) fun h => isSeq k h a its := by
  cases k
  · exact begins_list a its
  · exact begins_tuple a its
section
variable {X : Cx} {pins : List (Addr × Obj)} {σ : L2.St} {H : Hp} {s : Shared}
theorem seqK (I : Inv X pins σ H s) {k : Bool} {a : Addr} {xs : List V} (h : SqK X.K H k a xs) : ∃ its : List Value, Vals xs its ∧ isSeq k s.heap a its.toArray ∧ a < s.heap.objs.size := by
  cases k
  · obtain ⟨its, r, p, _⟩ := I.list h
    exact ⟨its, r, p.isList, p.lt⟩
  · obtain ⟨its, r, p, _⟩ := I.tuple h
    have p2 := p
    obtain ⟨o, e, _⟩ := p
    exact ⟨its, r, p2, Heap.lt_size e⟩
theorem sqK_inj (I : Inv X pins σ H s) {k : Bool} {a : Addr} {xs ys : List V} (h : SqK X.K H k a xs) (h' : SqK X.K H k a ys) : xs = ys := by
  cases k
  · exact I.list_inj h h'
  · exact I.tuple_inj h h'
end
theorem lt_fp {N a : Nat} (h : a < N) : ∀ b ∈ [a], b < N := fun b m => by
  rw [List.mem_singleton] at m
  rw [m]; exact h
/-! ### three -/
def It3 (K : PySem.W.Frag) (k1 k2 k3 : Bool) (a b c : Addr) : It :=
  ⟨fun i H => ∃ xs ys zs : List V, SqK K H k1 a xs ∧ SqK K H k2 b ys ∧ SqK K H k3 c zs ∧ i < xs.length ∧ i < ys.length ∧ i < zs.length,
    fun i H v H' => ∃ T x y z, v = .ref T ∧ H T = none ∧ H' = upd H T (.tup [x, y, z]) ∧ (∀ xs, SqK K H k1 a xs → xs[i]? = some x) ∧ (∀ ys, SqK K H k2 b ys → ys[i]? = some y) ∧ ∀ zs, SqK K H k3 c zs → zs[i]? = some z,
    fun i H => ∃ xs ys zs : List V, SqK K H k1 a xs ∧ SqK K H k2 b ys ∧ SqK K H k3 c zs ∧ i = min (min xs.length ys.length) zs.length⟩
theorem turn3 {P : Program} {w : World} {K : PySem.W.Frag} {elts : List Expr} {kk : Nat} {tpos : Pos} {k1 k2 k3 : Bool} {a b c z TI TO i1 i2 i3 : Addr} (S : ZipSep3 z TI TO i1 i2 i3 [i1, a] [i2, b] [i3, c]) (n1 : a ≠ i1) (n2 : b ≠ i2) (n3 : c ≠ i3) :
    Turn P w K (.Tuple elts kk tpos) (It3 K k1 k2 k3 a b c) [z, TI, TO, i1, i2, i3] z
      (fun i h => IsZip h z TI TO .none ∧ IsTupOf3 h TI (.ref i1) (.ref i2) (.ref i3) ∧ (∃ x y u, IsTupOf3 h TO x y u) ∧ itAt k1 h i1 a i ∧ itAt k2 h i2 b i ∧ itAt k3 h i3 c i) where
  mem := by simp
  obj := fun i h st q hq => by
    obtain ⟨hz, hI, ⟨x, y, u, hO⟩, h1, h2, h3⟩ := st
    have e' : q = z ∨ q = TI ∨ q = TO ∨ q = i1 ∨ q = i2 ∨ q = i3 := by simpa using hq
    rcases e' with e | e | e | e | e | e <;> rw [e]
    · exact ⟨_, hz, fun v q => nomatch q⟩
    · exact ⟨_, hI, fun v q => nomatch q⟩
    · exact ⟨_, hO, fun v q => nomatch q⟩
    · exact itAt_ob h1
    · exact itAt_ob h2
    · exact itAt_ob h3
  keep := fun i h h' st f => by
    obtain ⟨hz, hI, ⟨x, y, u, hO⟩, h1, h2, h3⟩ := st
    exact ⟨f z (by simp) _ hz, f TI (by simp) _ hI, ⟨x, y, u, f TO (by simp) _ hO⟩, itAt_keep h1 fun o q => f i1 (by simp) o q, itAt_keep h2 fun o q => f i2 (by simp) o q, itAt_keep h3 fun o q => f i3 (by simp) o q⟩
  item := by
    intro X hP hw hK hc i pins s σ H E I hf st hg
    subst hP hw hK
    obtain ⟨xs, ys, zs, q1, q2, q3, l1, l2, l3⟩ := hg
    obtain ⟨is1, r1, p1, _⟩ := seqK I q1
    obtain ⟨is2, r2, p2, _⟩ := seqK I q2
    obtain ⟨is3, r3, p3, _⟩ := seqK I q3
    have hh : X.A.in1.handled = none := by simp [I.ok.hd hc]
    have G := GoesN.zip3 (elts := elts) (x1 := kk) (pos := tpos) S (drawK (P := X.prog) (w := X.w) hh k1 i1 a n1 is1.toArray) (drawK hh k2 i2 b n2 is2.toArray) (drawK hh k3 i3 c n3 is3.toArray)
    have lt : i < min (min is1.toArray.size is2.toArray.size) is3.toArray.size := by
      have a1 := r1.length
      have a2 := r2.length
      have a3 := r3.length
      simp only [List.size_toArray]
      omega
    refine G.goes i s _ _ lt ⟨st.1, st.2.1, st.2.2.1, ⟨st.2.2.2.1, p1⟩, ⟨st.2.2.2.2.1, p2⟩, ⟨st.2.2.2.2.2, p3⟩⟩ fun v h' tk hY hst hk _ => ?_
    obtain ⟨T, x, y, u, rfl, hT, gx, gy, gu, tT⟩ := hY
    obtain ⟨vx, ex, rx⟩ : ∃ vx, xs[i]? = some vx ∧ RelV vx x := by
      obtain ⟨u', e1, e2⟩ := r1.get (List.getElem?_eq_getElem l1)
      rw [List.getElem?_toArray] at gx
      rw [gx] at e1
      cases e1
      exact ⟨_, List.getElem?_eq_getElem l1, e2⟩
    obtain ⟨vy, ey, ry⟩ : ∃ vy, ys[i]? = some vy ∧ RelV vy y := by
      obtain ⟨u', e1, e2⟩ := r2.get (List.getElem?_eq_getElem l2)
      rw [List.getElem?_toArray] at gy
      rw [gy] at e1
      cases e1
      exact ⟨_, List.getElem?_eq_getElem l2, e2⟩
    obtain ⟨vu, eu, ru⟩ : ∃ vu, zs[i]? = some vu ∧ RelV vu u := by
      obtain ⟨u', e1, e2⟩ := r3.get (List.getElem?_eq_getElem l3)
      rw [List.getElem?_toArray] at gu
      rw [gu] at e1
      cases e1
      exact ⟨_, List.getElem?_eq_getElem l3, e2⟩
    have new : ObjOk X.prog X.w (upd H T (.tup [vx, vy, vu])) h' T (.tup [vx, vy, vu]) := ⟨by show 3 ≤ sizeLine; decide, [x, y, u], .cons rx (.cons ry (.cons ru .nil)), tT⟩
    have hf' : ∀ b ∈ [z, TO, i1, i2, i3], FpOk X pins H b := fun b hb => hf b (by
      have e' : b = z ∨ b = TO ∨ b = i1 ∨ b = i2 ∨ b = i3 := by simpa using hb
      rcases e' with e | e | e | e | e <;> simp [e])
    have I1 := I.turnedNew (t' := tk) (ch := [z, TO, i1, i2, i3]) hk hf' hT new
    refine ⟨.ref T, _, I1, rfl, ⟨T, vx, vy, vu, rfl, I.hok.fresh hT, rfl, fun l hl => by rw [sqK_inj I hl q1]; exact ex, fun l hl => by rw [sqK_inj I hl q2]; exact ey, fun l hl => by rw [sqK_inj I hl q3]; exact eu⟩, ⟨hst.1, hst.2.1, hst.2.2.1, hst.2.2.2.1.1, hst.2.2.2.2.1.1, hst.2.2.2.2.2.1⟩, fun q hq => ?_⟩
    have hlt : q < s.heap.objs.size := by
      have e' : q = z ∨ q = TI ∨ q = TO ∨ q = i1 ∨ q = i2 ∨ q = i3 := by simpa using hq
      obtain ⟨hz, hI, ⟨_, _, _, hO⟩, h1, h2, h3⟩ := st
      rcases e' with e | e | e | e | e | e <;> rw [e]
      · exact Heap.lt_size hz
      · exact Heap.lt_size hI
      · exact Heap.lt_size hO
      · obtain ⟨_, w1, _⟩ := itAt_ob h1; exact Heap.lt_size w1
      · obtain ⟨_, w1, _⟩ := itAt_ob h2; exact Heap.lt_size w1
      · obtain ⟨_, w1, _⟩ := itAt_ob h3; exact Heap.lt_size w1
    rw [upd_ne (Nat.ne_of_lt (Nat.lt_of_lt_of_le hlt hT))]
    exact (hf q hq).1
  done := by
    intro X hP hw hK hc i pins s σ H E I hf st hg
    subst hP hw hK
    obtain ⟨xs, ys, zs, q1, q2, q3, ei⟩ := hg
    obtain ⟨is1, r1, p1, _⟩ := seqK I q1
    obtain ⟨is2, r2, p2, _⟩ := seqK I q2
    obtain ⟨is3, r3, p3, _⟩ := seqK I q3
    have hh : X.A.in1.handled = none := by simp [I.ok.hd hc]
    have G := GoesN.zip3 (elts := elts) (x1 := kk) (pos := tpos) S (drawK (P := X.prog) (w := X.w) hh k1 i1 a n1 is1.toArray) (drawK hh k2 i2 b n2 is2.toArray) (drawK hh k3 i3 c n3 is3.toArray)
    have en : i = min (min is1.toArray.size is2.toArray.size) is3.toArray.size := by
      have a1 := r1.length
      have a2 := r2.length
      have a3 := r3.length
      simp only [List.size_toArray]
      omega
    have st' := st
    rw [en] at st'
    refine G.stops s _ _ ⟨st'.1, st'.2.1, st'.2.2.1, ⟨st'.2.2.2.1, p1⟩, ⟨st'.2.2.2.2.1, p2⟩, ⟨st'.2.2.2.2.2, p3⟩⟩ fun h' tk hk _ => I.turnedL (t' := tk) (ch := [z, TO, i1, i2, i3]) hk fun b hb => hf b (by
      have e' : b = z ∨ b = TO ∨ b = i1 ∨ b = i2 ∨ b = i3 := by simpa using hb
      rcases e' with e | e | e | e | e <;> simp [e])
  self := fun A i s Q E st h => wpAny_pyIter_zip st.1 h
def iZip3 (K : PySem.W.Frag) (ta : TA) : TI := fun σ H R => ta σ H fun vs H1 => ∃ k1 k2 k3 a b c xs ys zs, vs = [.ref a, .ref b, .ref c] ∧ SqK K H1 k1 a xs ∧ SqK K H1 k2 b ys ∧ SqK K H1 k3 c zs ∧ R (It3 K k1 k2 k3 a b c) H1
theorem pi_zip3 {X : Cx} {e e2 e3 : Expr} {ta : TA} {p pos tpos : Pos} {elts : List Expr} {kk : Nat} (hg : Gl X "zip") (hm : X.mg "zip" = none) (ha : PA X [e, e2, e3] ta)
    (hs : starEach [e, e2, e3] X.env = (false, eval e X.env) :: starEach [e2, e3] X.env := by rfl) (hpl : (backTo pos (starEach [e2, e3] X.env)).any (·.1) = false := by rfl) :
    PI X (.Tuple elts kk tpos) (.Call (.Name "zip" p) [e, e2, e3] [] pos) (iZip3 X.K ta) := by
  refine ⟨fun pins s σ H R I h => ?_⟩
  refine Call_ (ld_blt I hg hm PyProof.Rows.boot_zip (PyProof.Rows.callWith_type1 (thn (ha.run pos pins s σ H _ I h) fun us s1 ⟨vs, H1, I1, r1, q1⟩ => ?_) hs hpl))
  obtain ⟨k1, k2, k3, a, b, c, xs, ys, zs, ev, w1, w2, w3, q⟩ := q1
  subst ev
  cases r1 with
  | cons g1 t1 =>
    cases t1 with
    | cons g2 t2 =>
      cases t2 with
      | cons g3 t3 =>
        cases t3
        cases g1
        cases g2
        cases g3
        obtain ⟨is1, _, p1, b1⟩ := seqK I1 w1
        obtain ⟨is2, _, p2, b2⟩ := seqK I1 w2
        obtain ⟨is3, _, p3, b3⟩ := seqK I1 w3
        refine zip_begins3 (beginK k1 a is1.toArray) (beginK k2 b is2.toArray) (beginK k3 c is3.toArray) p1 p2 p3 fun h' hz hI hO g1 g2 g3 _ hk => wpAny_pyIter_zip hz ?_
        have I2 : Inv X pins σ H1 { s1 with heap := h' } := I1.kept (t' := s1.toks) hk
        refine ⟨s1.heap.objs.size + 5, [s1.heap.objs.size + 5, s1.heap.objs.size + 3, s1.heap.objs.size + 4, s1.heap.objs.size, s1.heap.objs.size + 1, s1.heap.objs.size + 2], _, _, H1, rfl, I2,
          turn3 (zip_sep3 (lt_fp b1) (lt_fp b2) (lt_fp b3)) (Nat.ne_of_lt b1) (Nat.ne_of_lt (Nat.lt_succ_of_lt b2)) (Nat.ne_of_lt (Nat.lt_succ_of_lt (Nat.lt_succ_of_lt b3))), ⟨hz, hI, ⟨_, _, _, hO⟩, itAt_new g1, itAt_new g2, itAt_new g3⟩, fun d hd => ?_, q⟩
        have hle : s1.heap.objs.size ≤ d := by
          have e' : d = s1.heap.objs.size + 5 ∨ d = s1.heap.objs.size + 3 ∨ d = s1.heap.objs.size + 4 ∨ d = s1.heap.objs.size ∨ d = s1.heap.objs.size + 1 ∨ d = s1.heap.objs.size + 2 := by simpa using hd
          rcases e' with z | z | z | z | z | z <;> rw [z] <;> first | exact Nat.le_refl _ | exact Nat.le_add_right _ _
        exact I1.fpOk hle (I1.hok.fresh hle)
end ZipE
namespace ZipE
open PySem PySem.Spec PyProof.Rows L2
/-! ### two -/
def It2 (K : PySem.W.Frag) (k1 k2 : Bool) (a b : Addr) : It :=
  ⟨fun i H => ∃ xs ys : List V, SqK K H k1 a xs ∧ SqK K H k2 b ys ∧ i < xs.length ∧ i < ys.length,
    fun i H v H' => ∃ T x y, v = .ref T ∧ H T = none ∧ H' = upd H T (.tup [x, y]) ∧ (∀ xs, SqK K H k1 a xs → xs[i]? = some x) ∧ ∀ ys, SqK K H k2 b ys → ys[i]? = some y,
    fun i H => ∃ xs ys : List V, SqK K H k1 a xs ∧ SqK K H k2 b ys ∧ i = min xs.length ys.length⟩
theorem turn2 {P : Program} {w : World} {K : PySem.W.Frag} {elts : List Expr} {kk : Nat} {tpos : Pos} {k1 k2 : Bool} {a b z TI TO i1 i2 : Addr} (S : ZipSep2 z TI TO i1 i2 [i1, a] [i2, b]) (n1 : a ≠ i1) (n2 : b ≠ i2) :
    Turn P w K (.Tuple elts kk tpos) (It2 K k1 k2 a b) [z, TI, TO, i1, i2] z
      (fun i h => IsZip h z TI TO .none ∧ IsTupOf2 h TI (.ref i1) (.ref i2) ∧ (∃ x y, IsTupOf2 h TO x y) ∧ itAt k1 h i1 a i ∧ itAt k2 h i2 b i) where
  mem := by simp
  obj := fun i h st q hq => by
    obtain ⟨hz, hI, ⟨x, y, hO⟩, h1, h2⟩ := st
    have e' : q = z ∨ q = TI ∨ q = TO ∨ q = i1 ∨ q = i2 := by simpa using hq
    rcases e' with e | e | e | e | e <;> rw [e]
    · exact ⟨_, hz, fun v q => nomatch q⟩
    · exact ⟨_, hI, fun v q => nomatch q⟩
    · exact ⟨_, hO, fun v q => nomatch q⟩
    · exact itAt_ob h1
    · exact itAt_ob h2
  keep := fun i h h' st f => by
    obtain ⟨hz, hI, ⟨x, y, hO⟩, h1, h2⟩ := st
    exact ⟨f z (by simp) _ hz, f TI (by simp) _ hI, ⟨x, y, f TO (by simp) _ hO⟩, itAt_keep h1 fun o q => f i1 (by simp) o q, itAt_keep h2 fun o q => f i2 (by simp) o q⟩
  item := by
    intro X hP hw hK hc i pins s σ H E I hf st hg
    subst hP hw hK
    obtain ⟨xs, ys, q1, q2, l1, l2⟩ := hg
    obtain ⟨is1, r1, p1, _⟩ := seqK I q1
    obtain ⟨is2, r2, p2, _⟩ := seqK I q2
    have hh : X.A.in1.handled = none := by simp [I.ok.hd hc]
    have G := GoesN.zip2 (elts := elts) (x1 := kk) (pos := tpos) S (drawK (P := X.prog) (w := X.w) hh k1 i1 a n1 is1.toArray) (drawK hh k2 i2 b n2 is2.toArray)
    have lt : i < min is1.toArray.size is2.toArray.size := by
      have a1 := r1.length
      have a2 := r2.length
      simp only [List.size_toArray]
      omega
    refine G.goes i s _ _ lt ⟨st.1, st.2.1, st.2.2.1, ⟨st.2.2.2.1, p1⟩, ⟨st.2.2.2.2, p2⟩⟩ fun v h' tk hY hst hk _ => ?_
    obtain ⟨T, x, y, rfl, hT, gx, gy, tT⟩ := hY
    obtain ⟨vx, ex, rx⟩ : ∃ vx, xs[i]? = some vx ∧ RelV vx x := by
      obtain ⟨u', e1, e2⟩ := r1.get (List.getElem?_eq_getElem l1)
      rw [List.getElem?_toArray] at gx
      rw [gx] at e1
      cases e1
      exact ⟨_, List.getElem?_eq_getElem l1, e2⟩
    obtain ⟨vy, ey, ry⟩ : ∃ vy, ys[i]? = some vy ∧ RelV vy y := by
      obtain ⟨u', e1, e2⟩ := r2.get (List.getElem?_eq_getElem l2)
      rw [List.getElem?_toArray] at gy
      rw [gy] at e1
      cases e1
      exact ⟨_, List.getElem?_eq_getElem l2, e2⟩
    have new : ObjOk X.prog X.w (upd H T (.tup [vx, vy])) h' T (.tup [vx, vy]) := ⟨by show 2 ≤ sizeLine; decide, [x, y], .cons rx (.cons ry .nil), tT⟩
    have hf' : ∀ b ∈ [z, TO, i1, i2], FpOk X pins H b := fun b hb => hf b (by
      have e' : b = z ∨ b = TO ∨ b = i1 ∨ b = i2 := by simpa using hb
      rcases e' with e | e | e | e <;> simp [e])
    have I1 := I.turnedNew (t' := tk) (ch := [z, TO, i1, i2]) hk hf' hT new
    refine ⟨.ref T, _, I1, rfl, ⟨T, vx, vy, rfl, I.hok.fresh hT, rfl, fun l hl => by rw [sqK_inj I hl q1]; exact ex, fun l hl => by rw [sqK_inj I hl q2]; exact ey⟩, ⟨hst.1, hst.2.1, hst.2.2.1, hst.2.2.2.1.1, hst.2.2.2.2.1⟩, fun q hq => ?_⟩
    have hlt : q < s.heap.objs.size := by
      have e' : q = z ∨ q = TI ∨ q = TO ∨ q = i1 ∨ q = i2 := by simpa using hq
      obtain ⟨hz, hI, ⟨_, _, hO⟩, h1, h2⟩ := st
      rcases e' with e | e | e | e | e <;> rw [e]
      · exact Heap.lt_size hz
      · exact Heap.lt_size hI
      · exact Heap.lt_size hO
      · obtain ⟨_, w1, _⟩ := itAt_ob h1; exact Heap.lt_size w1
      · obtain ⟨_, w1, _⟩ := itAt_ob h2; exact Heap.lt_size w1
    rw [upd_ne (Nat.ne_of_lt (Nat.lt_of_lt_of_le hlt hT))]
    exact (hf q hq).1
  done := by
    intro X hP hw hK hc i pins s σ H E I hf st hg
    subst hP hw hK
    obtain ⟨xs, ys, q1, q2, ei⟩ := hg
    obtain ⟨is1, r1, p1, _⟩ := seqK I q1
    obtain ⟨is2, r2, p2, _⟩ := seqK I q2
    have hh : X.A.in1.handled = none := by simp [I.ok.hd hc]
    have G := GoesN.zip2 (elts := elts) (x1 := kk) (pos := tpos) S (drawK (P := X.prog) (w := X.w) hh k1 i1 a n1 is1.toArray) (drawK hh k2 i2 b n2 is2.toArray)
    have en : i = min is1.toArray.size is2.toArray.size := by
      have a1 := r1.length
      have a2 := r2.length
      simp only [List.size_toArray]
      omega
    have st' := st
    rw [en] at st'
    refine G.stops s _ _ ⟨st'.1, st'.2.1, st'.2.2.1, ⟨st'.2.2.2.1, p1⟩, ⟨st'.2.2.2.2, p2⟩⟩ fun h' tk hk _ => I.turnedL (t' := tk) (ch := [z, TO, i1, i2]) hk fun b hb => hf b (by
      have e' : b = z ∨ b = TO ∨ b = i1 ∨ b = i2 := by simpa using hb
      rcases e' with e | e | e | e <;> simp [e])
  self := fun A i s Q E st h => wpAny_pyIter_zip st.1 h
def iZip2 (K : PySem.W.Frag) (ta : TA) : TI := fun σ H R => ta σ H fun vs H1 => ∃ k1 k2 a b xs ys, vs = [.ref a, .ref b] ∧ SqK K H1 k1 a xs ∧ SqK K H1 k2 b ys ∧ R (It2 K k1 k2 a b) H1
theorem pi_zip2 {X : Cx} {e e2 : Expr} {ta : TA} {p pos tpos : Pos} {elts : List Expr} {kk : Nat} (hg : Gl X "zip") (hm : X.mg "zip" = none) (ha : PA X [e, e2] ta)
    (hs : starEach [e, e2] X.env = (false, eval e X.env) :: starEach [e2] X.env := by rfl) (hpl : (backTo pos (starEach [e2] X.env)).any (·.1) = false := by rfl) :
    PI X (.Tuple elts kk tpos) (.Call (.Name "zip" p) [e, e2] [] pos) (iZip2 X.K ta) := by
  refine ⟨fun pins s σ H R I h => ?_⟩
  refine Call_ (ld_blt I hg hm PyProof.Rows.boot_zip (PyProof.Rows.callWith_type1 (thn (ha.run pos pins s σ H _ I h) fun us s1 ⟨vs, H1, I1, r1, q1⟩ => ?_) hs hpl))
  obtain ⟨k1, k2, a, b, xs, ys, ev, w1, w2, q⟩ := q1
  subst ev
  cases r1 with
  | cons g1 t1 =>
    cases t1 with
    | cons g2 t2 =>
      cases t2
      cases g1
      cases g2
      obtain ⟨is1, _, p1, b1⟩ := seqK I1 w1
      obtain ⟨is2, _, p2, b2⟩ := seqK I1 w2
      refine zip_begins2 (beginK k1 a is1.toArray) (beginK k2 b is2.toArray) p1 p2 fun h' hz hI hO g1 g2 _ hk => wpAny_pyIter_zip hz ?_
      have I2 : Inv X pins σ H1 { s1 with heap := h' } := I1.kept (t' := s1.toks) hk
      refine ⟨s1.heap.objs.size + 4, [s1.heap.objs.size + 4, s1.heap.objs.size + 2, s1.heap.objs.size + 3, s1.heap.objs.size, s1.heap.objs.size + 1], _, _, H1, rfl, I2,
        turn2 (zip_sep2 (lt_fp b1) (lt_fp b2)) (Nat.ne_of_lt b1) (Nat.ne_of_lt (Nat.lt_succ_of_lt b2)), ⟨hz, hI, ⟨_, _, hO⟩, itAt_new g1, itAt_new g2⟩, fun d hd => ?_, q⟩
      have hle : s1.heap.objs.size ≤ d := by
        have e' : d = s1.heap.objs.size + 4 ∨ d = s1.heap.objs.size + 2 ∨ d = s1.heap.objs.size + 3 ∨ d = s1.heap.objs.size ∨ d = s1.heap.objs.size + 1 := by simpa using hd
        rcases e' with z | z | z | z | z <;> rw [z] <;> first | exact Nat.le_refl _ | exact Nat.le_add_right _ _
      exact I1.fpOk hle (I1.hok.fresh hle)
/-! ### enumerate -/
theorem meets_enum1 {v : Value} {o : Obj} {HH : Heap → Prop} (B : Begins v o HH) :
    Meets (Builtin.«enumerate.__new__» ⟨[.type "enumerate", v], []⟩) (fun _ R s => HH s.heap ∧
      R (.ok (.ret (.ref (s.heap.push o).objs.size))) { s with heap := (s.heap.push o).push { cls := .type "enumerate", data := .fields #[.none, .bool false, .ref s.heap.objs.size, rawInt 0, .none, .none] } }) :=
  .of_wp fun prog w A R s h => by
    obtain ⟨hp, g, d, tk, os⟩ := s
    obtain ⟨h1, h⟩ := h
    have sb := sub_enumerate
    have q1 : ∀ {A' : Around} {E : Value → Shared → Prop} {Q : Value → Shared → Prop}, Q (.ref hp.objs.size) ⟨hp.push o, g, d, tk, os⟩ → wpAny (model prog w) A' (pyIter v) Q E ⟨hp, g, d, tk, os⟩ := fun q => B.iter prog w _ _ ⟨hp, g, d, tk, os⟩ _ h1 q
    wp_walk using q1
    refine wpAny_stack_any fun st => wpAny_pure ?_
    split
    · rename_i c _ _ _ _ _
      cases (c == Value.type "enumerate")
      all_goals
        wp_walk using q1
        exact ⟨_, rfl, h⟩
    · wp_walk using q1
      exact ⟨_, rfl, h⟩
theorem call_enum1 {prog : Program} {w : World} {A : Around} {E : Value → Shared → Prop} {s : Shared} {v : Value} {o : Obj} {HH : Heap → Prop} {Q : Value → Shared → Prop} (B : Begins v o HH) (h1 : HH s.heap)
    (h : ∀ h', IsEnum h' (s.heap.objs.size + 1) s.heap.objs.size 0 .none → h'.get? s.heap.objs.size = some o → (∀ b o, s.heap.get? b = some o → h'.get? b = some o) → Q (.ref (s.heap.objs.size + 1)) { s with heap := h' }) :
    wpAny (model prog w) A (call (.type "enumerate") [v]) Q E s := by
  refine callType_new F.called_enumerate (by decide) (F.typeCall_enumerate_1 _) (F.newCall_enumerate_1 _) (fun obj => F.args_object_init_2 obj _) F.entry_enumerate_new (meets_enum1 B) ⟨h1, ?_⟩
  have hz : (s.heap.push o).objs.size = s.heap.objs.size + 1 := Heap.size_push ..
  have he := Heap.get?_push_size (s.heap.push o) (o := { cls := .type "enumerate", data := .fields #[.none, .bool false, .ref s.heap.objs.size, rawInt 0, .none, .none] }) rfl
  show _ ∧ _
  rw [hz] at he ⊢
  exact ⟨⟨_, he, rfl⟩, h _ he (Heap.get?_push_of_some _ (Heap.get?_push_size _ B.free)) fun b o x => Heap.get?_push_of_some _ (Heap.get?_push_of_some _ x)⟩
def It1 (K : PySem.W.Frag) (k1 : Bool) (a : Addr) : It :=
  ⟨fun i H => ∃ xs : List V, SqK K H k1 a xs ∧ i < xs.length,
    fun i H v H' => ∃ T x, v = .ref T ∧ H T = none ∧ H' = upd H T (.tup [.int (i : Nat), x]) ∧ ∀ xs, SqK K H k1 a xs → xs[i]? = some x,
    fun i H => ∃ xs : List V, SqK K H k1 a xs ∧ i = xs.length⟩
theorem turn1 {P : Program} {w : World} {K : PySem.W.Frag} {elts : List Expr} {kk : Nat} {tpos : Pos} {k1 : Bool} {a e it : Addr} (ne : e ≠ it) (nf : e ∉ [it, a]) (n1 : a ≠ it) :
    Turn P w K (.Tuple elts kk tpos) (It1 K k1 a) [e, it] e (fun i h => (∃ old, IsEnum h e it ((0 : Int) + (i : Int)) old) ∧ itAt k1 h it a i) where
  mem := by simp
  obj := fun i h st q hq => by
    obtain ⟨⟨old, he⟩, h1⟩ := st
    have e' : q = e ∨ q = it := by simpa using hq
    rcases e' with z | z <;> rw [z]
    · exact ⟨_, he, fun v q => nomatch q⟩
    · exact itAt_ob h1
  keep := fun i h h' st f => by
    obtain ⟨⟨old, he⟩, h1⟩ := st
    exact ⟨⟨old, f e (by simp) _ he⟩, itAt_keep h1 fun o q => f it (by simp) o q⟩
  item := by
    intro X hP hw hK hc i pins s σ H E I hf st hg
    subst hP hw hK
    obtain ⟨xs, q1, l1⟩ := hg
    obtain ⟨is1, r1, p1, _⟩ := seqK I q1
    have hh : X.A.in1.handled = none := by simp [I.ok.hd hc]
    have G := GoesN.enumFrom (elts := elts) (x1 := kk) (pos := tpos) 0 (drawK (P := X.prog) (w := X.w) hh k1 it a n1 is1.toArray) e ne nf (by simp)
    have lt : i < is1.toArray.size := by
      have a1 := r1.length
      simp only [List.size_toArray]
      omega
    refine G.goes i s _ _ lt ⟨st.1, st.2, p1⟩ fun v h' tk hY hst hk _ => ?_
    obtain ⟨T, t, x, rfl, hT, gx, tT⟩ := hY
    obtain ⟨vx, ex, rx⟩ : ∃ vx, xs[i]? = some vx ∧ RelV vx x := by
      obtain ⟨u', e1, e2⟩ := r1.get (List.getElem?_eq_getElem l1)
      rw [List.getElem?_toArray] at gx
      rw [gx] at e1
      cases e1
      exact ⟨_, List.getElem?_eq_getElem l1, e2⟩
    have ei : (0 : Int) + (i : Int) = (i : Int) := Int.zero_add _
    rw [ei] at tT
    have new : ObjOk X.prog X.w (upd H T (.tup [.int (i : Nat), vx])) h' T (.tup [.int (i : Nat), vx]) := ⟨by show 2 ≤ sizeLine; decide, [.int (i : Nat) t, x], .cons ⟨t, rfl⟩ (.cons rx .nil), tT⟩
    have I1 := I.turnedNew (t' := tk) (ch := [e, it]) hk hf hT new
    refine ⟨.ref T, _, I1, rfl, ⟨T, vx, rfl, I.hok.fresh hT, rfl, fun l hl => by rw [sqK_inj I hl q1]; exact ex⟩, ⟨hst.1, hst.2.1⟩, fun q hq => ?_⟩
    have hlt : q < s.heap.objs.size := by
      have e' : q = e ∨ q = it := by simpa using hq
      obtain ⟨⟨_, he⟩, h1⟩ := st
      rcases e' with z | z <;> rw [z]
      · exact Heap.lt_size he
      · obtain ⟨_, w1, _⟩ := itAt_ob h1; exact Heap.lt_size w1
    rw [upd_ne (Nat.ne_of_lt (Nat.lt_of_lt_of_le hlt hT))]
    exact (hf q hq).1
  done := by
    intro X hP hw hK hc i pins s σ H E I hf st hg
    subst hP hw hK
    obtain ⟨xs, q1, ei⟩ := hg
    obtain ⟨is1, r1, p1, _⟩ := seqK I q1
    have hh : X.A.in1.handled = none := by simp [I.ok.hd hc]
    have G := GoesN.enumFrom (elts := elts) (x1 := kk) (pos := tpos) 0 (drawK (P := X.prog) (w := X.w) hh k1 it a n1 is1.toArray) e ne nf (by simp)
    have en : i = is1.toArray.size := by
      have a1 := r1.length
      simp only [List.size_toArray]
      omega
    have st' := st
    rw [en] at st'
    exact G.stops s _ _ ⟨st'.1, st'.2, p1⟩ fun h' tk hk _ => I.turnedL (t' := tk) (ch := [e, it]) hk hf
  self := fun A i s Q E st h => let ⟨⟨_, he⟩, _⟩ := st; wpAny_pyIter_enum he h
def iEnum1 (K : PySem.W.Frag) (ta : TA) : TI := fun σ H R => ta σ H fun vs H1 => ∃ k1 a xs, vs = [.ref a] ∧ SqK K H1 k1 a xs ∧ R (It1 K k1 a) H1
theorem pi_enum1 {X : Cx} {e : Expr} {ta : TA} {p pos tpos : Pos} {elts : List Expr} {kk : Nat} (hg : Gl X "enumerate") (hm : X.mg "enumerate" = none) (ha : PA X [e] ta) (hs : starEach [e] X.env = [(false, eval e X.env)] := by rfl) :
    PI X (.Tuple elts kk tpos) (.Call (.Name "enumerate" p) [e] [] pos) (iEnum1 X.K ta) := by
  refine ⟨fun pins s σ H R I h => ?_⟩
  refine Call_ (ld_blt I hg hm boot_enumerate (PyProof.Rows.callWith_type1 (thn (ha.run pos pins s σ H _ I h) fun us s1 ⟨vs, H1, I1, r1, q1⟩ => ?_) hs rfl))
  obtain ⟨k1, a, xs, ev, w1, q⟩ := q1
  subst ev
  cases r1 with
  | cons g1 t1 =>
    cases t1
    cases g1
    obtain ⟨is1, _, p1, b1⟩ := seqK I1 w1
    refine call_enum1 (beginK k1 a is1.toArray) p1 fun h' he g1 hk => wpAny_pyIter_enum he ?_
    have I2 : Inv X pins σ H1 { s1 with heap := h' } := I1.kept (t' := s1.toks) hk
    refine ⟨s1.heap.objs.size + 1, [s1.heap.objs.size + 1, s1.heap.objs.size], _, _, H1, rfl, I2, turn1 (Nat.succ_ne_self _) (fun m => ?_) (Nat.ne_of_lt b1), ⟨⟨.none, he⟩, itAt_new g1⟩, fun d hd => ?_, q⟩
    · rcases List.mem_cons.mp m with z | z
      · exact Nat.succ_ne_self _ z
      · rw [List.mem_singleton] at z
        exact absurd z (Nat.ne_of_gt (Nat.lt_succ_of_lt b1))
    · have hle : s1.heap.objs.size ≤ d := by
        have e' : d = s1.heap.objs.size + 1 ∨ d = s1.heap.objs.size := by simpa using hd
        rcases e' with z | z <;> rw [z] <;> first | exact Nat.le_refl _ | exact Nat.le_add_right _ _
      exact I1.fpOk hle (I1.hok.fresh hle)
end ZipE
namespace Go
open PySem PySem.Spec PyProof.Rows L2 SetMix
open Evl (Ex)
/-! ### rules of the layer that lack: list + list of what is read; sets; sorted -/
section
variable {X : Cx}
def rCatR : R2 := fun x y H Q => ∃ l b xs zs, x = .ref l ∧ y = .ref b ∧ Rd H l (.lst xs) ∧ Rd H b (.lst zs) ∧ xs.length + zs.length ≤ sizeLine ∧ ∀ p, H p = none → Q (.ref p) (upd H p (.lst (xs ++ zs)))
theorem op_catR : OpR X (binaryOp .Add) rCatR := by
  intro pins s σ H x y v u Q I rx ry h
  obtain ⟨l, b, xs, zs, rfl, rfl, hl, hb, hz, q⟩ := h
  cases rx
  cases ry
  obtain ⟨_, i1, n1, r1, e1⟩ := hl.ok I.hok
  obtain ⟨_, i2, n2, r2, e2⟩ := hb.ok I.hok
  have z1 := r1.length
  have z2 := r2.length
  refine PySem.P.add_list e1 e2 ?_ (by simp only [List.size_toArray]; omega)
  have ea : i1.toArray ++ i2.toArray = (i1 ++ i2).toArray := by simp
  rw [ea]
  exact ⟨.ref _, _, I.lnew (t' := s.toks) (r1.append r2) (by rw [List.length_append]; omega), rfl, q _ I.fresh⟩
def SetMO (wd : PySem.World) (a : Addr) (S : Key → Bool) (m : Nat) : HO := .ext fun h => Tab wd h a S m
theorem setMO_ok {P : Program} {wd : PySem.World} {H : Hp} {h : Heap} {a : Addr} {S : Key → Bool} {m : Nat} (T : Tab wd h a S m) : ObjOk P wd H h a (SetMO wd a S m) := by
  have T2 := T
  obtain ⟨ob, _, _, _, e, _⟩ := T2
  exact ⟨T, ⟨ob, e⟩, fun h1 h2 t k => t.keep k⟩
theorem vals_keys : ∀ {us : List Value} {ks : List Key}, Vals (ks.map kV) us → KeysAre us ks
  | _, [], .nil => .nil
  | _, k :: ks, .cons r t => .cons (by
      cases k with
      | inl i => obtain ⟨t, rfl⟩ := r; exact keyIs_int i t
      | inr x => obtain ⟨t, rfl⟩ := r; exact keyIs_str x t) (vals_keys t)
theorem keys_vals : ∀ {us : List Value} {ks : List Key}, KeysAre us ks → Vals (ks.map kV) us
  | _, _, .nil => .nil
  | _, _, .cons (b := k) r t => .cons (by
      rcases keyIs_shape r with ⟨i, t, rfl, rfl⟩ | ⟨x, t, rfl, rfl⟩
      · exact ⟨t, rfl⟩
      · exact ⟨t, rfl⟩) (keys_vals t)
def rSetOf (K : PySem.W.Frag) (wd : PySem.World) : List V → Hp → VK → Prop := fun xs H Q => ∃ (l : Addr) (ks : List Key), xs = [V.ref l] ∧ SqL K H l (ks.map kV) ∧ ks.length < 4000 ∧ ∀ p c, H p = none → c ≤ ks.length → Q (.ref p) (upd H p (SetMO wd p (fun j => inK ks j) c))
theorem cr_setOf (hc : X.calm = true) : CallR X (.type "set") (rSetOf X.K X.w) := by
  intro pins s σ H xs us Q I r h
  obtain ⟨l, ks, rfl, hl, hz, q⟩ := h
  rw [Vals.ref1 r]
  obtain ⟨its, rv, pl, _⟩ := I.list hl
  refine call_set_keys ks (I.ok.hd hc) pl.isList (by simpa using vals_keys rv) (by unfold scanBound; omega) fun hq tk c T hc2 hk => ?_
  exact ⟨.ref _, _, I.laid (t' := tk) hk (Nat.le_refl _) (setMO_ok T), rfl, q _ c (I.hok.fresh (Nat.le_refl _)) hc2⟩
def rSortedTab (wd : PySem.World) : List V → Hp → VK → Prop := fun vs H Q => ∃ (a : Addr) (S : Key → Bool) (m : Nat), vs = [V.ref a] ∧ H a = some (SetMO wd a S m) ∧ (∀ ks : List Key, (∀ k ∈ ks, S k = true) → OneKind ks) ∧
  ∀ (ks ks0 : List Key) (p : Addr), ks = ks0.mergeSort (PySem.W.dataLe false dK) → ks0.Nodup → (∀ k, k ∈ ks0 ↔ S k = true) → ks0.length = m → H p = none → Q (.ref p) (upd H p (.lst (ks.map kV)))
theorem cr_sortedTab (hc : X.calm = true) (hu : X.A.units + 64 < cLine) : CallR X (.builtin "sorted") (rSortedTab X.w) := by
  intro pins s σ H vs us Q I r h
  obtain ⟨a, S, m, rfl, ha, one, q⟩ := h
  rw [Vals.ref1 r]
  obtain ⟨T, _⟩ := (show ObjOk X.prog X.w H s.heap a (SetMO X.w a S m) from I.hok a _ ha)
  refine sorted_tab T (I.ok.hd hc) (by omega) one fun s' p out c ks ks0 k g o hp hg hi hk nd hm hl => ?_
  have hn : H p = none := I.hok.fresh hp
  have hlen : (ks.map kV).length ≤ sizeLine := by
    have e : ks.length = ks0.length := by rw [hk]; exact (List.mergeSort_perm _ _).length_eq
    obtain ⟨_, es, _, _, _, _, _, _, _, _, hb, _, hn2, _⟩ := T
    rw [List.length_map, e, hl, ← hn2, sizeLine_eq]
    unfold scanBound at hb
    omega
  have J : Inv X pins σ (upd H p (.lst (ks.map kV))) { s with heap := s'.heap, gens := s'.gens, drawn := s'.drawn, toks := s'.toks } :=
    I.call (ch := []) (Un.laid k hp hn) (I.hok.laid k hp ⟨hlen, out, c, keys_vals hi, hg⟩) (by rw [g]; exact I.bare) (fun _ z => nomatch z)
  have e : s' = { s with heap := s'.heap, gens := s'.gens, drawn := s'.drawn, toks := s'.toks } := by
    cases s'
    cases s
    cases o
    rfl
  rw [e]
  exact ⟨.ref p, _, J, rfl, q ks ks0 p hk nd hm hl hn⟩
def rSortedD (K : PySem.W.Frag) : List V → Hp → VK → Prop := fun vs H Q => ∃ (a : Addr) (bs : List (V × PyData)), vs = [V.ref a] ∧ SqL K H a (bs.map (·.1)) ∧ (∀ b ∈ bs, Dp K H b.1 b.2) ∧ PySem.W.AllAlike (bs.map (·.2)) ∧ PySem.W.Sortable (bs.map (·.2)) ∧ (∀ b ∈ bs, b.2.depth ≤ 16) ∧
  ∀ p, H p = none → Q (.ref p) (upd H p (.lst ((bs.mergeSort (PySem.W.dataLe false (·.2))).map (·.1))))
theorem each_pairs {R : Value → V × PyData → Prop} : ∀ {us : List Value} {bs : List (V × PyData)}, Vals (bs.map (·.1)) us → (∀ u b, b ∈ bs → RelV b.1 u → R u b) → PySem.W.EachIs R us bs
  | _, [], .nil, _ => .nil
  | _, b :: bs, .cons r t, f => .cons (f _ b List.mem_cons_self r) (each_pairs t fun u c hc => f u c (List.mem_cons_of_mem _ hc))
theorem vals_pairs : ∀ {us : List Value} {bs : List (V × PyData)}, PySem.W.EachIs (fun u (b : V × PyData) => RelV b.1 u) us bs → Vals (bs.map (·.1)) us
  | _, _, .nil => .nil
  | _, _, .cons r t => .cons r (vals_pairs t)
theorem cr_sortedD (hu : X.A.units + 64 < cLine) : CallR X (.builtin "sorted") (rSortedD X.K) := by
  intro pins s σ H vs us Q I r h
  obtain ⟨a, bs, rfl, hl, hd, al, so, dp, q⟩ := h
  rw [Vals.ref1 r]
  obtain ⟨its, rv, pl, hz⟩ := I.list hl
  rw [List.length_map] at hz
  have e1 : PySem.W.EachIs (fun u (b : V × PyData) => RelV b.1 u) its bs := each_pairs rv fun u b _ r => r
  have e2 : PySem.W.EachIs (fun u (b : V × PyData) => ∃ as, Reads s.heap u b.2 as) its bs := each_pairs rv fun u b hb r => Dp.reads I b.2 b.1 u (hd b hb) r
  refine PySem.W.sorted_data (enc := fun b : V × PyData => b.2) pl.isList e1 e2 al so hz (fun b hb => by have := dp b hb; omega) fun out ho eo => ?_
  obtain ⟨c, hc⟩ := sortedAll_at s.heap its out.toArray
  refine ⟨.ref (s.heap.objs.size + 1), _, I.laid (t' := s.toks) (fun b o e => sortedAll_old e) (Nat.le_succ _) (o := .lst ((bs.mergeSort (PySem.W.dataLe false (·.2))).map (·.1))) ⟨?_, out, c, vals_pairs eo, hc⟩, rfl, q _ (I.hok.fresh (Nat.le_succ _))⟩
  rw [List.length_map, (List.mergeSort_perm _ _).length_eq]
  exact hz
end
end Go
namespace Go
open PySem PySem.Spec PyProof.Rows L2 SetMix ZipE
open Evl (Ex)
section
variable {K : PySem.W.Frag} {I0 H0 I I' H H' : Hp} {bs ls as : List Addr} {ρ ts : List SV} {g : List Cell} {σ : L2.St} {vs : List V} {n : Nat} {X : Cx}
/-! ### inversion -/
theorem all1 {ws : List V} {d : D} (h : IsAll K I ws [d]) : ∃ v, ws = [v] ∧ Is K I v d := by
  cases h with | cons h t => cases t; exact ⟨_, rfl, h⟩
theorem all2 {ws : List V} {d e : D} (h : IsAll K I ws [d, e]) : ∃ v w, ws = [v, w] ∧ Is K I v d ∧ Is K I w e := by
  cases h with | cons h t => obtain ⟨w, rfl, q⟩ := all1 t; exact ⟨_, w, rfl, h, q⟩
theorem is_int {v : V} {i : Int} (h : Is K I v (.int i)) : v = .int i := by cases h; rfl
theorem is_str {v : V} {x : Str} (h : Is K I v (.str x)) : v = .str x := by cases h; rfl
theorem is_bl {v : V} {b : Bool} (h : Is K I v (.bool b)) : v = .bl b := by cases h; rfl
theorem is_list {v : V} {ds : List D} (h : Is K I v (.list ds)) : ∃ a xs, v = .ref a ∧ Rd I a (.lst xs) ∧ IsAll K I xs ds := by
  cases h with | lst a b => exact ⟨_, _, rfl, a, b⟩
theorem is_tup {v : V} {ds : List D} (h : Is K I v (.tuple ds)) : ∃ a xs, v = .ref a ∧ SqT K I a xs ∧ IsAll K I xs ds := by
  cases h with | tup a b => exact ⟨_, _, rfl, a, b⟩
/-- results: nothing new, a new list, a new tuple -/
theorem out0 {Q : VK} {post : D → Prop} (ex : Ex I H) (q : ∀ v I' H' d, Fr [] I H I' H' → Is K I' v d → post d → Q v H') {v : V} {d : D} (i : Is K I v d) (p : post d) : Q v H := q v I H d (Fr.refl ex) i p
theorem outL {Q : VK} {post : D → Prop} (ex : Ex I H) (q : ∀ v I' H' d, Fr [] I H I' H' → Is K I' v d → post d → Q v H') {xs : List V} {ds : List D} (i : IsAll K I xs ds) (p : post (.list ds)) {a : Addr} (ha : H a = none) : Q (.ref a) (upd H a (.lst xs)) :=
  q _ (upd I a (.lst xs)) _ (.list ds) (fr_new ex ha) (.lst (.inl upd_same) (i.mono (fr_new ex ha).ii)) p
theorem outT {Q : VK} {post : D → Prop} (ex : Ex I H) (q : ∀ v I' H' d, Fr [] I H I' H' → Is K I' v d → post d → Q v H') {xs : List V} {ds : List D} (i : IsAll K I xs ds) (p : post (.tuple ds)) {a : Addr} (ha : H a = none) : Q (.ref a) (upd H a (.tup xs)) :=
  q _ (upd I a (.tup xs)) _ (.tuple ds) (fr_new ex ha) (.tup (.inl (.inl upd_same)) (i.mono (fr_new ex ha).ii)) p
/-! ### == != -/
theorem opd_eq {d e : D} {post : D → Prop} (hd : SeqAt.shaped d = true) (he : SeqAt.shaped e = true) (p : post (.bool (PyData.eqv d e))) : OpD K (un2 (rEqD K)) [d, e] post := fun I H ws ex h Q q => by
  obtain ⟨v, w, rfl, i1, i2⟩ := all2 h
  exact ⟨v, w, rfl, d, e, i1.dp (SeqAt.canLay_of_shaped hd) ex, i2.dp (SeqAt.canLay_of_shaped he) ex, hd, he, out0 ex q (.bl _) p⟩
theorem opd_ne {d e : D} {post : D → Prop} (hd : SeqAt.shaped d = true) (he : SeqAt.shaped e = true) (p : post (.bool (!PyData.eqv d e))) : OpD K (un2 (rNeD K)) [d, e] post := fun I H ws ex h Q q => by
  obtain ⟨v, w, rfl, i1, i2⟩ := all2 h
  exact ⟨v, w, rfl, d, e, i1.dp (SeqAt.canLay_of_shaped hd) ex, i2.dp (SeqAt.canLay_of_shaped he) ex, hd, he, out0 ex q (.bl _) p⟩
/-! ### x[i] -/
theorem atI_is {xs : List V} {ds : List D} {i : Int} {d : D} (a : IsAll K I xs ds) (h : atI ds i = some d) : ∃ v, atI xs i = some v ∧ Is K I v d := by
  unfold atI at h ⊢
  rw [a.length]
  cases e : ixN ds.length i with
  | none => rw [e] at h; cases h
  | some j =>
    rw [e] at h
    exact a.get h
theorem opd_ixT {ds : List D} {i : Int} {d : D} {post : D → Prop} (h : atI ds i = some d) (p : post d) : OpD K (un2 (rIx K)) [.tuple ds, .int i] post := fun I H ws ex hw Q q => by
  obtain ⟨v, w, rfl, i1, i2⟩ := all2 hw
  obtain ⟨a, xs, rfl, hs, ha⟩ := is_tup i1
  cases is_int i2
  obtain ⟨u, hu, iu⟩ := atI_is ha h
  exact ⟨_, _, rfl, .inr (.inl ⟨a, xs, i, u, rfl, rfl, Evl.ex_t ex hs, hu, out0 ex q iu p⟩)⟩
theorem opd_ixL {ds : List D} {i : Int} {d : D} {post : D → Prop} (h : atI ds i = some d) (p : post d) : OpD K (un2 (rIx K)) [.list ds, .int i] post := fun I H ws ex hw Q q => by
  obtain ⟨v, w, rfl, i1, i2⟩ := all2 hw
  obtain ⟨a, xs, rfl, hs, ha⟩ := is_list i1
  cases is_int i2
  obtain ⟨u, hu, iu⟩ := atI_is ha h
  exact ⟨_, _, rfl, .inl ⟨a, xs, i, u, rfl, rfl, .inl (Evl.ex_rd ex hs), hu, out0 ex q iu p⟩⟩
theorem opd_ixS {x : Str} {i : Int} {c : Nat} {post : D → Prop} (hl : x.length ≤ 100000) (h : atI x.cps.toList i = some c) (p : post (.str ⟨#[c]⟩)) : OpD K (un2 (rIx K)) [.str x, .int i] post := fun I H ws ex hw Q q => by
  obtain ⟨v, w, rfl, i1, i2⟩ := all2 hw
  cases is_str i1
  cases is_int i2
  exact ⟨_, _, rfl, .inr (.inr ⟨x, i, c, rfl, rfl, Evl.sz_of hl, h, out0 ex q (.str _) p⟩)⟩
/-- an item of a list that is being made -/
theorem gd_ixC {ta tb : TE} {post : D → List Cell → Prop} (h : GoE K n ta ρ ts g fun s g1 => ∃ j : Nat, s = .c j ∧ GoD K n tb ρ (.c j :: ts) g1 fun di g2 => ∃ (i : Int) (ds : List D) (d : D), di = .int i ∧ g2[j]? = some (some ds) ∧ atI ds i = some d ∧ post d g2) : GoD K n (tOp (rIx K) ta tb) ρ ts g post := by
  intro I0 H0 bs σ vs H hn w Q q
  refine h I0 H0 bs σ vs H hn w _ fun v H1 s g1 w1 ⟨j, e, p⟩ => ?_
  subst e
  refine p I0 H0 bs σ _ H1 hn w1 _ fun x H2 s2 g2 ⟨I, ls, w2⟩ ⟨di, e, i, ds, d, e2, hg, ha, pp⟩ => ?_
  subst e e2
  obtain ⟨w3, r2⟩ := w2.pop
  obtain ⟨w4, r1⟩ := w3.pop
  cases r1 with
  | @c a _ hp =>
    cases r2 with
    | d ii =>
      cases is_int ii
      obtain ⟨_, xs, hx, ia⟩ := w4.ce.at hp hg
      obtain ⟨u, hu, iu⟩ := atI_is ia ha
      exact .inl ⟨a, xs, i, u, rfl, rfl, .inl (.inl hx), hu, q u H2 (.d d) g2 ⟨I, ls, w4.push (.d iu)⟩ ⟨d, rfl, pp⟩⟩
/-- the script -/
theorem gd_ixN {ta tb : TE} {post : D → List Cell → Prop} (h : GoE K n ta ρ ts g fun s g1 => ∃ ns : List Int, s = .s ns ∧ GoD K n tb ρ (.s ns :: ts) g1 fun di g2 => ∃ (i : Int) (z : Int), di = .int i ∧ atI ns i = some z ∧ post (.int z) g2) : GoD K n (tOp (rIx K) ta tb) ρ ts g post := by
  intro I0 H0 bs σ vs H hn w Q q
  refine h I0 H0 bs σ vs H hn w _ fun v H1 s g1 w1 ⟨ns, e, p⟩ => ?_
  subst e
  refine p I0 H0 bs σ _ H1 hn w1 _ fun x H2 s2 g2 ⟨I, ls, w2⟩ ⟨di, e, i, z, e2, ha, pp⟩ => ?_
  subst e e2
  obtain ⟨w3, r2⟩ := w2.pop
  obtain ⟨w4, r1⟩ := w3.pop
  cases r1 with
  | @s a _ hp =>
    cases r2 with
    | d ii =>
      cases is_int ii
      refine .inl ⟨a, _, i, .int z, rfl, rfl, Evl.ex_l w4.fr.ih hp, ?_, q (.int z) H2 (.d (.int z)) g2 ⟨I, ls, w4.push (.d (.int z))⟩ ⟨_, rfl, pp⟩⟩
      unfold atI at ha ⊢
      rw [List.length_map]
      cases e : ixN ns.length i with
      | none => rw [e] at ha; cases ha
      | some j =>
        rw [e] at ha
        show (ns.map V.int)[j]? = some (V.int z)
        rw [List.getElem?_map]
        rw [show ns[j]? = some z from ha]
        rfl
theorem gd_lenN {ta : TE} {r : List V → Hp → VK → Prop} {post : D → List Cell → Prop} (hr : ∀ (a : Addr) (ys : List V) (H : Hp) (Q : VK), SqL K H a ys → Q (.int ys.length) H → r [.ref a] H Q) (h : GoE K n ta ρ ts g fun s g1 => ∃ ns : List Int, s = .s ns ∧ post (.int ns.length) g1) : GoD K n (tCB r (tCons ta tNil)) ρ ts g post := by
  intro I0 H0 bs σ vs H hn w Q q
  refine h I0 H0 bs σ vs H hn w _ fun v H1 s g1 ⟨I, ls, w1⟩ ⟨ns, e, p⟩ => ?_
  subst e
  obtain ⟨w2, r1⟩ := w1.pop
  cases r1 with
  | @s a _ hp =>
    refine hr a _ H1 Q (Evl.ex_l w2.fr.ih hp) ?_
    rw [List.length_map]
    exact q _ H1 (.d (.int ns.length)) g1 ⟨I, ls, w2.push (.d (.int _))⟩ ⟨_, rfl, p⟩
/-! ### in -/
def flatD : D → Bool
  | .none => true
  | .bool _ => true
  | .int _ => true
  | .str _ => true
  | _ => false
theorem flat_is {v : V} {d : D} (i : Is K I v d) (f : flatD d = true) : flatV v = true := by cases i <;> first | rfl | cases f
theorem flat_all : ∀ {vs : List V} {ds : List D}, IsAll K I vs ds → ds.all flatD = true → vs.all flatV = true
  | _, _, .nil, _ => rfl
  | _, _, .cons i t, f => by
    rw [List.all_cons, Bool.and_eq_true] at f ⊢
    exact ⟨flat_is i f.1, flat_all t f.2⟩
theorem eqV_is {v w : V} {d e : D} (i : Is K I v d) (j : Is K I w e) (f : flatD d = true) (f' : flatD e = true) : eqV v w = PyData.eqv d e := by
  cases i <;> cases j <;> first | (unfold PyData.eqv; rfl) | cases f | cases f'
theorem inV_is {w : V} {e : D} (j : Is K I w e) (f' : flatD e = true) : ∀ {vs : List V} {ds : List D}, IsAll K I vs ds → ds.all flatD = true → inV w vs = ds.any fun y => PyData.eqv y e
  | _, _, .nil, _ => rfl
  | _, _, .cons i t, f => by
    rw [List.all_cons, Bool.and_eq_true] at f
    unfold inV
    rw [List.any_cons, List.any_cons, eqV_is i j f.1 f']
    have := inV_is j f' t f.2
    unfold inV at this
    rw [this]
theorem opd_inT {neg : Bool} {d : D} {ds : List D} {post : D → Prop} (fd : flatD d = true) (fs : ds.all flatD = true) (p : post (.bool (if neg then !(ds.any fun y => PyData.eqv y d) else ds.any fun y => PyData.eqv y d))) : OpD K (un2 (rIn K neg)) [d, .tuple ds] post := fun I H ws ex hw Q q => by
  obtain ⟨v, w, rfl, i1, i2⟩ := all2 hw
  obtain ⟨a, xs, rfl, hs, ha⟩ := is_tup i2
  refine ⟨_, _, rfl, a, xs, rfl, .inr (Evl.ex_t ex hs), flat_is i1 fd, flat_all ha fs, ?_⟩
  rw [inV_is i1 fd ha fs]
  exact out0 ex q (.bl _) p
theorem opd_inL {neg : Bool} {d : D} {ds : List D} {post : D → Prop} (fd : flatD d = true) (fs : ds.all flatD = true) (p : post (.bool (if neg then !(ds.any fun y => PyData.eqv y d) else ds.any fun y => PyData.eqv y d))) : OpD K (un2 (rIn K neg)) [d, .list ds] post := fun I H ws ex hw Q q => by
  obtain ⟨v, w, rfl, i1, i2⟩ := all2 hw
  obtain ⟨a, xs, rfl, hs, ha⟩ := is_list i2
  refine ⟨_, _, rfl, a, xs, rfl, .inl (.inl (Evl.ex_rd ex hs)), flat_is i1 fd, flat_all ha fs, ?_⟩
  rw [inV_is i1 fd ha fs]
  exact out0 ex q (.bl _) p
/-! ### +, * of lists and tuples -/
theorem opd_cat {ds es : List D} {post : D → Prop} (hz : ds.length + es.length ≤ 100000) (p : post (.list (ds ++ es))) : OpD K (un2 rCatR) [.list ds, .list es] post := fun I H ws ex hw Q q => by
  obtain ⟨v, w, rfl, i1, i2⟩ := all2 hw
  obtain ⟨a, xs, rfl, hs, ha⟩ := is_list i1
  obtain ⟨b, ys, rfl, hs2, hb⟩ := is_list i2
  exact ⟨_, _, rfl, a, b, xs, ys, rfl, rfl, Evl.ex_rd ex hs, Evl.ex_rd ex hs2, by rw [ha.length, hb.length]; exact Evl.sz_of hz, fun p' hp => outL ex q (ha.append hb) p hp⟩
theorem opd_catT {ds es : List D} {post : D → Prop} (hz : ds.length + es.length ≤ 100000) (p : post (.tuple (ds ++ es))) : OpD K (un2 (rCatA K)) [.tuple ds, .tuple es] post := fun I H ws ex hw Q q => by
  obtain ⟨v, w, rfl, i1, i2⟩ := all2 hw
  obtain ⟨a, xs, rfl, hs, ha⟩ := is_tup i1
  obtain ⟨b, ys, rfl, hs2, hb⟩ := is_tup i2
  refine ⟨_, _, rfl, a, b, xs, ys, rfl, rfl, Evl.ex_t ex hs, Evl.ex_t ex hs2, by rw [ha.length, hb.length]; exact Evl.sz_of hz, fun e => ?_, fun _ e => ?_, fun _ _ p' hp => outT ex q (ha.append hb) p hp⟩
  · subst e
    cases ha
    exact out0 ex q i2 p
  · subst e
    cases hb
    rw [List.append_nil] at p
    exact out0 ex q i1 p
theorem isAll_rep {xs : List V} {ds : List D} (a : IsAll K I xs ds) : ∀ m : Nat, IsAll K I (List.replicate m xs).flatten (List.replicate m ds).flatten
  | 0 => .nil
  | m + 1 => by
    rw [List.replicate_succ, List.replicate_succ, List.flatten_cons, List.flatten_cons]
    exact a.append (isAll_rep a m)
/-! ### calls -/
def rLenA (K : PySem.W.Frag) : List V → Hp → VK → Prop := fun xs H Q => (∃ p ys, xs = [.ref p] ∧ (SqL K H p ys ∨ SqT K H p ys) ∧ Q (.int ys.length) H) ∨ (∃ z : Str, xs = [.str z] ∧ z.length ≤ sizeLine ∧ Q (.int z.length) H)
theorem call_lenA : CallR X (.builtin "len") (rLenA X.K) := CallR.or call_len_seq call_len_str
theorem rLenA_seq (a : Addr) (ys : List V) (H : Hp) (Q : VK) (h : SqL K H a ys) (q : Q (.int ys.length) H) : rLenA K [.ref a] H Q := .inl ⟨a, ys, rfl, .inl h, q⟩
theorem opd_lenL {ds : List D} {post : D → Prop} (p : post (.int ds.length)) : OpD K (rLenA K) [.list ds] post := fun I H ws ex hw Q q => by
  obtain ⟨v, rfl, i⟩ := all1 hw
  obtain ⟨a, xs, rfl, hs, ha⟩ := is_list i
  exact .inl ⟨a, xs, rfl, .inl (.inl (Evl.ex_rd ex hs)), by rw [ha.length]; exact out0 ex q (.int _) p⟩
theorem opd_lenT {ds : List D} {post : D → Prop} (p : post (.int ds.length)) : OpD K (rLenA K) [.tuple ds] post := fun I H ws ex hw Q q => by
  obtain ⟨v, rfl, i⟩ := all1 hw
  obtain ⟨a, xs, rfl, hs, ha⟩ := is_tup i
  exact .inl ⟨a, xs, rfl, .inr (Evl.ex_t ex hs), by rw [ha.length]; exact out0 ex q (.int _) p⟩
theorem opd_lenS {x : Str} {post : D → Prop} (hl : x.length ≤ 100000) (p : post (.int x.length)) : OpD K (rLenA K) [.str x] post := fun I H ws ex hw Q q => by
  obtain ⟨v, rfl, i⟩ := all1 hw
  cases is_str i
  exact .inr ⟨x, rfl, Evl.sz_of hl, out0 ex q (.int _) p⟩
def rTupleA (K : PySem.W.Frag) : List V → Hp → VK → Prop := fun xs H Q => ∃ p ys, xs = [.ref p] ∧ ((SqL K H p ys ∧ ∀ l, H l = none → Q (.ref l) (upd H l (.tup ys))) ∨ (SqT K H p ys ∧ Q (.ref p) H))
theorem call_tupleA : CallR X (.type "tuple") (rTupleA X.K) := call_tuple_of
theorem opd_tupleL {ds : List D} {post : D → Prop} (p : post (.tuple ds)) : OpD K (rTupleA K) [.list ds] post := fun I H ws ex hw Q q => by
  obtain ⟨v, rfl, i⟩ := all1 hw
  obtain ⟨a, xs, rfl, hs, ha⟩ := is_list i
  exact ⟨a, xs, rfl, .inl ⟨.inl (Evl.ex_rd ex hs), fun l hl => outT ex q ha p hl⟩⟩
theorem opd_tupleT {ds : List D} {post : D → Prop} (p : post (.tuple ds)) : OpD K (rTupleA K) [.tuple ds] post := fun I H ws ex hw Q q => by
  obtain ⟨v, rfl, i⟩ := all1 hw
  obtain ⟨a, xs, rfl, hs, ha⟩ := is_tup i
  exact ⟨a, xs, rfl, .inr ⟨Evl.ex_t ex hs, out0 ex q (.tup hs ha) p⟩⟩
def rMax2A : List V → Hp → VK → Prop := fun xs H Q => ∃ i j, xs = [.int i, .int j] ∧ Q (.int (if j > i then j else i)) H
def rMin2A : List V → Hp → VK → Prop := fun xs H Q => ∃ i j, xs = [.int i, .int j] ∧ Q (.int (if j < i then j else i)) H
theorem call_max2A (hc : X.calm = true) : CallR X (.builtin "max") rMax2A := call_max2 hc
theorem call_min2A (hc : X.calm = true) : CallR X (.builtin "min") rMin2A := call_min2 hc
theorem opd_max2 {i j : Int} {post : D → Prop} (p : post (.int (if j > i then j else i))) : OpD K rMax2A [.int i, .int j] post := fun I H ws ex hw Q q => by
  obtain ⟨v, w, rfl, i1, i2⟩ := all2 hw
  cases is_int i1
  cases is_int i2
  exact ⟨i, j, rfl, out0 ex q (.int _) p⟩
theorem opd_min2 {i j : Int} {post : D → Prop} (p : post (.int (if j < i then j else i))) : OpD K rMin2A [.int i, .int j] post := fun I H ws ex hw Q q => by
  obtain ⟨v, w, rfl, i1, i2⟩ := all2 hw
  cases is_int i1
  cases is_int i2
  exact ⟨i, j, rfl, out0 ex q (.int _) p⟩
theorem ints_is : ∀ {xs : List V} {ns : List Int}, IsAll K I xs (ns.map PyData.int) → xs = ns.map V.int
  | _, [], .nil => rfl
  | _, _ :: _, .cons i t => by rw [is_int i, ints_is t]; rfl
theorem bls_is : ∀ {xs : List V} {ns : List Bool}, IsAll K I xs (ns.map PyData.bool) → xs = ns.map V.bl
  | _, [], .nil => rfl
  | _, _ :: _, .cons i t => by rw [is_bl i, bls_is t]; rfl
theorem strs_is : ∀ {xs : List V} {ns : List Str}, IsAll K I xs (ns.map PyData.str) → xs = ns.map V.str
  | _, [], .nil => rfl
  | _, _ :: _, .cons i t => by rw [is_str i, strs_is t]; rfl
theorem opd_maxL {ns : List Int} {post : D → Prop} (h0 : 0 < ns.length) (p : ∀ m ∈ ns, (∀ y ∈ ns, y ≤ m) → post (.int m)) : OpD K (rMax K) [.list (ns.map PyData.int)] post := fun I H ws ex hw Q q => by
  obtain ⟨v, rfl, i⟩ := all1 hw
  obtain ⟨a, xs, rfl, hs, ha⟩ := is_list i
  rw [ints_is ha] at hs
  exact ⟨a, ns, rfl, .inl (Evl.ex_rd ex hs), h0, fun m hm hy => out0 ex q (.int _) (p m hm hy)⟩
theorem opd_minL {ns : List Int} {post : D → Prop} (h0 : 0 < ns.length) (p : ∀ m ∈ ns, (∀ y ∈ ns, m ≤ y) → post (.int m)) : OpD K (rMin K) [.list (ns.map PyData.int)] post := fun I H ws ex hw Q q => by
  obtain ⟨v, rfl, i⟩ := all1 hw
  obtain ⟨a, xs, rfl, hs, ha⟩ := is_list i
  rw [ints_is ha] at hs
  exact ⟨a, ns, rfl, .inl (Evl.ex_rd ex hs), h0, fun m hm hy => out0 ex q (.int _) (p m hm hy)⟩
theorem opd_any {ns : List Bool} {post : D → Prop} (p : post (.bool (ns.any id))) : OpD K (rAny K) [.list (ns.map PyData.bool)] post := fun I H ws ex hw Q q => by
  obtain ⟨v, rfl, i⟩ := all1 hw
  obtain ⟨a, xs, rfl, hs, ha⟩ := is_list i
  rw [bls_is ha] at hs
  exact ⟨a, ns, rfl, .inl (Evl.ex_rd ex hs), out0 ex q (.bl _) p⟩
theorem opd_all {ns : List Bool} {post : D → Prop} (p : post (.bool (ns.all id))) : OpD K (rAll K) [.list (ns.map PyData.bool)] post := fun I H ws ex hw Q q => by
  obtain ⟨v, rfl, i⟩ := all1 hw
  obtain ⟨a, xs, rfl, hs, ha⟩ := is_list i
  rw [bls_is ha] at hs
  exact ⟨a, ns, rfl, .inl (Evl.ex_rd ex hs), out0 ex q (.bl _) p⟩
def rAbsA : List V → Hp → VK → Prop := fun xs H Q => ∃ i, xs = [.int i] ∧ Q (.int (if i < 0 then -i else i)) H
theorem call_absA : CallR X (.builtin "abs") rAbsA := call_abs
theorem opd_abs {i : Int} {post : D → Prop} (p : post (.int (if i < 0 then -i else i))) : OpD K rAbsA [.int i] post := fun I H ws ex hw Q q => by
  obtain ⟨v, rfl, ii⟩ := all1 hw
  cases is_int ii
  exact ⟨i, rfl, out0 ex q (.int _) p⟩
def rIntA : List V → Hp → VK → Prop := fun xs H Q => (∃ i, xs = [.int i] ∧ Q (.int i) H) ∨ ∃ k, xs = [.bl k] ∧ Q (.int (if k then 1 else 0)) H
theorem call_intA : CallR X (.type "int") rIntA := call_int1
theorem opd_intB {k : Bool} {post : D → Prop} (p : post (.int (if k then 1 else 0))) : OpD K rIntA [.bool k] post := fun I H ws ex hw Q q => by
  obtain ⟨v, rfl, ii⟩ := all1 hw
  cases is_bl ii
  exact .inr ⟨k, rfl, out0 ex q (.int _) p⟩
/-! ### isinstance(x, T) -/
def tyN : D → String
  | .none => "NoneType"
  | .bool _ => "bool"
  | .int _ => "int"
  | .str _ => "str"
  | .list _ => "list"
  | .tuple _ => "tuple"
  | .dict _ => "dict"
def isaN (T N : String) : Bool := T == N || (T == "int" && N == "bool")
def isaD (T : String) (d : D) : Bool := isaN T (tyN d)
theorem is_ty {v : V} {d : D} (ex : Ex I H) (i : Is K I v d) : TyX K H v (.type (tyN d)) := by
  cases i with
  | non => exact .base .non
  | bl b => exact .base (.bl b)
  | int j => exact .base (.int j)
  | str x => exact .base (.str x)
  | lst h _ =>
    rcases Evl.ex_rd ex h with h | ⟨o, h⟩
    · exact .base (.lst h)
    · exact .base (.frz h)
  | tup h _ =>
    rcases Evl.ex_t ex h with (h | ⟨o, h⟩) | ⟨o, _, _, h, c, _⟩
    · exact .base (.tup h)
    · exact .fTuple h
    · exact .kTuple h c
  | dic h _ => exact .base (.dK (ex _ _ h))
theorem kitB_ok {T : String} (hT : T = "int" ∨ T = "bool" ∨ T = "str" ∨ T = "list" ∨ T = "tuple" ∨ T = "dict") (d : D) : kitB (tyN d) T = some (isaD T d) := by
  unfold isaD
  have h : tyN d = "NoneType" ∨ tyN d = "bool" ∨ tyN d = "int" ∨ tyN d = "str" ∨ tyN d = "list" ∨ tyN d = "tuple" ∨ tyN d = "dict" := by cases d <;> simp [tyN]
  generalize tyN d = N at h ⊢
  rcases hT with rfl | rfl | rfl | rfl | rfl | rfl <;> rcases h with rfl | rfl | rfl | rfl | rfl | rfl | rfl <;> decide +kernel
theorem gd_isi {ta : TE} {T : String} {post : D → List Cell → Prop} (hT : T = "int" ∨ T = "bool" ∨ T = "str" ∨ T = "list" ∨ T = "tuple" ∨ T = "dict") (h : GoD K n ta ρ ts g fun d g1 => post (.bool (isaD T d)) g1) : GoD K n (tCB (rIsi K) (tCons ta (tCons (tC (.ty T)) tNil))) ρ ts g post := by
  intro I0 H0 bs σ vs H hn w Q q
  refine h I0 H0 bs σ vs H hn w _ fun v H1 s g1 ⟨I, ls, w1⟩ ⟨d, e, p⟩ => ?_
  subst e
  obtain ⟨w2, r⟩ := w1.pop
  cases r with
  | d i => exact ⟨v, .ty T, _, _, _, rfl, .ty T, is_ty w2.fr.ih i, kit_ty (kitB_ok hT d), q _ H1 _ g1 ⟨I, ls, w2.push (.d (.bl _))⟩ ⟨_, rfl, p⟩⟩
end
end Go
namespace Go
open PySem PySem.Spec PyProof.Rows L2 SetMix ZipE
open Evl (Ex)
theorem OpR.or {X : Cx} {f : Value → Value → Sem Value} {r r' : R2} (h : OpR X f r) (h' : OpR X f r') : OpR X f (fun x y H Q => r x y H Q ∨ r' x y H Q) := by
  intro pins s σ H x y v u Q I rx ry q
  rcases q with q | q
  · exact h pins s σ H x y v u Q I rx ry q
  · exact h' pins s σ H x y v u Q I rx ry q
section
variable {K : PySem.W.Frag} {I0 H0 I I' H H' : Hp} {bs ls as : List Addr} {ρ ts : List SV} {g : List Cell} {σ : L2.St} {vs : List V} {n : Nat} {X : Cx}
theorem OpD.or1 {r r' : R2} {ds : List D} {post : D → Prop} (h : OpD K (un2 r) ds post) : OpD K (un2 fun x y H Q => r x y H Q ∨ r' x y H Q) ds post := fun I H ws ex hw Q q => by
  obtain ⟨x, y, e, k⟩ := h I H ws ex hw Q q
  exact ⟨x, y, e, .inl k⟩
theorem OpD.or2 {r r' : R2} {ds : List D} {post : D → Prop} (h : OpD K (un2 r') ds post) : OpD K (un2 fun x y H Q => r x y H Q ∨ r' x y H Q) ds post := fun I H ws ex hw Q q => by
  obtain ⟨x, y, e, k⟩ := h I H ws ex hw Q q
  exact ⟨x, y, e, .inr k⟩
/-- + of whole numbers, lists, tuples -/
def rAddA (K : PySem.W.Frag) : R2 := fun x y H Q => rI0 (fun i j => V.int (i + j)) x y H Q ∨ (fun x y H Q => rCatR x y H Q ∨ rCatA K x y H Q) x y H Q
theorem op_addA : OpR X (binaryOp .Add) (rAddA X.K) := OpR.or op_add (OpR.or op_catR op_catA)
theorem opd_addI {i j : Int} {post : D → Prop} (p : post (.int (i + j))) : OpD K (un2 (rAddA K)) [.int i, .int j] post := OpD.or1 (opd_I0 (fun _ => .int _) p)
theorem opd_addL {ds es : List D} {post : D → Prop} (hz : ds.length + es.length ≤ 100000) (p : post (.list (ds ++ es))) : OpD K (un2 (rAddA K)) [.list ds, .list es] post := OpD.or2 (OpD.or1 (opd_cat hz p))
theorem opd_addT {ds es : List D} {post : D → Prop} (hz : ds.length + es.length ≤ 100000) (p : post (.tuple (ds ++ es))) : OpD K (un2 (rAddA K)) [.tuple ds, .tuple es] post := OpD.or2 (OpD.or2 (opd_catT hz p))
theorem opd_sub {i j : Int} {post : D → Prop} (p : post (.int (i - j))) : OpD K (un2 (rI0 fun i j => V.int (i - j))) [.int i, .int j] post := opd_I0 (fun _ => .int _) p
theorem opd_mul {i j : Int} {post : D → Prop} (hc : CMulW i j) (p : post (.int (i * j))) : OpD K (un2 (rI CMulW fun i j => V.int (i * j))) [.int i, .int j] post := opd_I (fun _ => .int _) hc p
theorem opd_mod {i j : Int} {post : D → Prop} (hc : 0 < j) (p : post (.int (i % j))) : OpD K (un2 (rI (fun _ j => 0 < j) fun i j => V.int (i % j))) [.int i, .int j] post := opd_I (C := fun _ j => 0 < j) (fun _ => .int _) hc p
theorem opd_fdiv {i j : Int} {post : D → Prop} (hc : CDivW i j) (p : post (.int (i / j))) : OpD K (un2 (rI CDivW fun i j => V.int (i / j))) [.int i, .int j] post := opd_I (fun _ => .int _) hc p
theorem opd_pow {i j : Int} {post : D → Prop} (hc : CPow i j) (p : post (.int (i ^ j.toNat))) : OpD K (un2 (rI CPow fun i j => V.int (i ^ j.toNat))) [.int i, .int j] post := opd_I (fun _ => .int _) hc p
theorem opd_lt {i j : Int} {post : D → Prop} (p : post (.bool (decide (i < j)))) : OpD K (un2 (rI0 fun i j => V.bl (decide (i < j)))) [.int i, .int j] post := opd_I0 (fun _ => .bl _) p
theorem opd_le {i j : Int} {post : D → Prop} (p : post (.bool (decide (i ≤ j)))) : OpD K (un2 (rI0 fun i j => V.bl (decide (i ≤ j)))) [.int i, .int j] post := opd_I0 (fun _ => .bl _) p
theorem opd_gt {i j : Int} {post : D → Prop} (p : post (.bool (decide (j < i)))) : OpD K (un2 (rI0 fun i j => V.bl (decide (j < i)))) [.int i, .int j] post := opd_I0 (fun _ => .bl _) p
theorem opd_ge {i j : Int} {post : D → Prop} (p : post (.bool (decide (j ≤ i)))) : OpD K (un2 (rI0 fun i j => V.bl (decide (j ≤ i)))) [.int i, .int j] post := opd_I0 (fun _ => .bl _) p
/-! ### slices of lists -/
def GoO (K : PySem.W.Frag) (n : Nat) (to : TO) (ρ ts : List SV) (g : List Cell) (post : Option Int → List Cell → Prop) : Prop :=
  ∀ I0 H0 bs σ vs H, bs.length = n → World K I0 H0 bs ρ ts g σ vs H → ∀ Q : Option Int → Hp → Prop, (∀ o H' g', World K I0 H0 bs ρ ts g' σ vs H' → post o g' → Q o H') → to σ H Q
theorem go_none {post : Option Int → List Cell → Prop} (p : post none g) : GoO K n tNoPart ρ ts g post := fun I0 H0 bs σ vs H hn w Q q => q none H g w p
theorem go_some {te : TE} {post : Option Int → List Cell → Prop} (h : GoD K n te ρ ts g fun d g1 => ∃ i, d = .int i ∧ post (some i) g1) : GoO K n (tPart te) ρ ts g post := by
  intro I0 H0 bs σ vs H hn w Q q
  refine h I0 H0 bs σ vs H hn w _ fun v H1 s g1 ⟨I, ls, w1⟩ ⟨d, e, i, e2, p⟩ => ?_
  subst e e2
  obtain ⟨w2, r⟩ := w1.pop
  cases r with
  | d ii => cases is_int ii; exact ⟨i, rfl, q _ H1 g1 ⟨I, ls, w2⟩ p⟩
def cutD (xs : List D) (lo hi : Option Int) : List D := (xs.drop (HT.sIx xs.length 0 lo)).take (HT.sIx xs.length xs.length hi - HT.sIx xs.length 0 lo)
theorem isAll_cut {xs : List V} {ds : List D} (a : IsAll K I xs ds) (lo hi : Option Int) : IsAll K I (cutV xs lo hi) (cutD ds lo hi) := by
  unfold cutV cutD
  rw [a.length]
  exact (a.drop _).take _
theorem gd_sl {te : TE} {tl th : TO} {post : D → List Cell → Prop} (h : GoD K n te ρ ts g fun d g1 => ∃ ds, d = .list ds ∧ GoO K n tl ρ (.d d :: ts) g1 fun lo g2 => GoO K n th ρ (.d d :: ts) g2 fun hi g3 => post (.list (cutD ds lo hi)) g3) : GoD K n (tSl (rSlL K) te tl th) ρ ts g post := by
  intro I0 H0 bs σ vs H hn w Q q
  refine h I0 H0 bs σ vs H hn w _ fun v H1 s g1 w1 ⟨d, e, ds, e2, p1⟩ => ?_
  subst e e2
  refine p1 I0 H0 bs σ _ H1 hn w1 _ fun lo H2 g2 w2 p2 => p2 I0 H0 bs σ _ H2 hn w2 _ fun hi H3 g3 ⟨I, ls, w3⟩ p3 => ?_
  obtain ⟨w4, r⟩ := w3.pop
  cases r with
  | d i =>
    obtain ⟨a, xs, rfl, hs, ha⟩ := is_list i
    refine ⟨a, xs, rfl, .inl (Evl.ex_rd w4.fr.ih hs), fun p hp => ?_⟩
    exact outL (post := fun d => post d g3) (Q := Q) w4.fr.ih (fun v I' H' d f i p => q v H' (.d d) g3 ⟨I', ls, (w4.step f).push (.d i)⟩ ⟨d, rfl, p⟩) (isAll_cut ha lo hi) p3 hp
/-! ### sorted -/
def rSortedA (K : PySem.W.Frag) (wd : PySem.World) : List V → Hp → VK → Prop := fun xs H Q => rSortedD K xs H Q ∨ rSortedTab wd xs H Q
theorem call_sortedA (hc : X.calm = true) (hu : X.A.units + 64 < cLine) : CallR X (.builtin "sorted") (rSortedA X.K X.w) := CallR.or (cr_sortedD hu) (cr_sortedTab hc hu)
theorem isAll_zip : ∀ {xs : List V} {ds : List D}, IsAll K I xs ds → (xs.zip ds).map (·.1) = xs ∧ (xs.zip ds).map (·.2) = ds ∧ ∀ b ∈ xs.zip ds, Is K I b.1 b.2
  | _, _, .nil => ⟨rfl, rfl, fun _ z => nomatch z⟩
  | _, _, .cons i t => by
    obtain ⟨a, b, c⟩ := isAll_zip t
    refine ⟨by rw [List.zip_cons_cons, List.map_cons, a], by rw [List.zip_cons_cons, List.map_cons, b], fun q hq => ?_⟩
    rw [List.zip_cons_cons] at hq
    rcases List.mem_cons.mp hq with e | e
    · rw [e]; exact i
    · exact c q e
theorem isAll_of_pairs : ∀ {bs : List (V × D)}, (∀ b ∈ bs, Is K I b.1 b.2) → IsAll K I (bs.map (·.1)) (bs.map (·.2))
  | [], _ => .nil
  | b :: bs, h => .cons (h b List.mem_cons_self) (isAll_of_pairs fun c hc => h c (List.mem_cons_of_mem _ hc))
def sortD (ds : List D) : List D := ds.mergeSort (PySem.W.dataLe false id)
theorem opd_sorted {wd : PySem.World} {ds : List D} {post : D → Prop} (al : PySem.W.AllAlike ds) (so : PySem.W.Sortable ds) (ok : ∀ d ∈ ds, d.canLay0 = true ∧ d.depth ≤ 16) (p : post (.list (sortD ds))) : OpD K (rSortedA K wd) [.list ds] post := fun I H ws ex hw Q q => by
  obtain ⟨v, rfl, i⟩ := all1 hw
  obtain ⟨a, xs, rfl, hs, ha⟩ := is_list i
  obtain ⟨z1, z2, z3⟩ := isAll_zip ha
  have m2 : ∀ b ∈ xs.zip ds, b.2 ∈ ds := fun b hb => by
    rw [← z2]; exact List.mem_map.mpr ⟨b, hb, rfl⟩
  refine .inl ⟨a, xs.zip ds, rfl, by rw [z1]; exact .inl (Evl.ex_rd ex hs), fun b hb => (z3 b hb).dp (ok _ (m2 b hb)).1 ex, by rw [z2]; exact al, by rw [z2]; exact so, fun b hb => (ok _ (m2 b hb)).2, fun p' hp => ?_⟩
  have e : sortD ds = ((xs.zip ds).mergeSort (PySem.W.dataLe false (·.2))).map (·.2) := by
    have h := PySem.W.sort_maps (r := PySem.W.dataLe false fun x : V × D => x.2) (s := PySem.W.dataLe false id) (l := xs.zip ds) (fun x : V × D => x.2) (fun a _ b _ => rfl)
    rw [z2] at h
    exact h.symm
  rw [e] at p
  exact outL ex q (isAll_of_pairs fun b hb => z3 b ((List.mergeSort_perm _ _).mem_iff.mp hb)) p hp
theorem keys_is : ∀ (ks : List Key), IsAll K I (ks.map kV) (ks.map kD)
  | [] => .nil
  | k :: ks => .cons (by cases k with | inl i => exact .int i | inr x => exact .str x) (keys_is ks)
theorem is_keys : ∀ {xs : List V} {ks : List Key}, IsAll K I xs (ks.map kD) → xs = ks.map kV
  | _, [], .nil => rfl
  | _, k :: ks, .cons i t => by
    rw [is_keys t]
    cases k with
    | inl j => cases is_int (show Is K I _ (.int j) from i); rfl
    | inr x => cases is_str (show Is K I _ (.str x) from i); rfl
/-- sorted(set(e)), e a list of whole numbers or of texts -/
theorem gd_sortset {wd : PySem.World} {te : TE} {post : D → List Cell → Prop} (h : GoD K n te ρ ts g fun d g1 => ∃ ks : List Key, d = .list (ks.map kD) ∧ ks.length < 4000 ∧ OneKind ks ∧
      ∀ ks' ks0 : List Key, ks' = ks0.mergeSort (PySem.W.dataLe false kD) → ks0.Nodup → (∀ k, k ∈ ks0 ↔ k ∈ ks) → post (.list (ks'.map kD)) g1) :
    GoD K n (tCB (rSortedA K wd) (tCons (tCB (rSetOf K wd) (tCons te tNil)) tNil)) ρ ts g post := by
  intro I0 H0 bs σ vs H hn w Q q
  refine h I0 H0 bs σ vs H hn w _ fun v H1 s g1 ⟨I, ls, w1⟩ ⟨d, e, ks, e2, hz, one, p⟩ => ?_
  subst e e2
  obtain ⟨w2, r⟩ := w1.pop
  cases r with
  | d i =>
    obtain ⟨a, xs, rfl, hs, ha⟩ := is_list i
    rw [is_keys ha] at hs
    refine ⟨a, ks, rfl, .inl (Evl.ex_rd w2.fr.ih hs), hz, fun s c hs0 hc => .inr ⟨s, _, c, rfl, upd_same, fun l hl => ?_, fun ks' ks0 t hk nd hm _ ht => ?_⟩⟩
    · rcases one with o | o
      · exact .inl fun k hk => o k (inK_iff.mp (hl k hk))
      · exact .inr fun k hk => o k (inK_iff.mp (hl k hk))
    · have f1 : Fr [] I H1 I (upd H1 s (SetMO wd s (fun j => inK ks j) c)) := by
        have hx : ∀ b o, H1 b = some o → upd H1 s (SetMO wd s (fun j => inK ks j) c) b = some o := fun b o e => by rw [upd_ne (ne_of_none e hs0)]; exact e
        refine ⟨Ex.refl I, fun b o e => hx b o (w2.fr.ih b o e), fun b o _ e => hx b o e, fun b e => ?_, fun _ _ e => e⟩
        cases z : H1 b with
        | none => exact absurd z e
        | some o => rw [hx b o z]; exact fun y => nomatch y
      have w3 := w2.step f1
      have pp := p ks' ks0 hk nd fun k => (hm k).trans inK_iff
      exact outL (post := fun d => post d g1) (Q := Q) w3.fr.ih (fun v I' H' d f i p => q v H' (.d d) g1 ⟨I', ls, (w3.step f).push (.d i)⟩ ⟨d, rfl, p⟩) (keys_is ks') pp ht
/-! ### zip, enumerate -/
theorem zip_at {α β : Type} {l : List α} {m : List β} {i : Nat} {a : α} {b : β} (h : l[i]? = some a) (k : m[i]? = some b) : (l.zip m)[i]? = some (a, b) := (List.getElem?_zip_eq_some (z := (a, b))).mpr ⟨h, k⟩
def zipD2 (as bs : List D) : List D := (as.zip bs).map fun p => .tuple [p.1, p.2]
def zipD3 (as bs cs : List D) : List D := (as.zip (bs.zip cs)).map fun p => .tuple [p.1, p.2.1, p.2.2]
def enumD (as : List D) : List D := (List.range as.length).zip as |>.map fun p => .tuple [.int (p.1 : Nat), p.2]
theorem is_seq {v : V} {d : D} {ds : List D} (h : d = .list ds ∨ d = .tuple ds) (i : Is K I v d) : ∃ k a xs, v = .ref a ∧ SqK K I k a xs ∧ IsAll K I xs ds := by
  rcases h with rfl | rfl
  · obtain ⟨a, xs, e, h, t⟩ := is_list i
    exact ⟨false, a, xs, e, .inl h, t⟩
  · obtain ⟨a, xs, e, h, t⟩ := is_tup i
    exact ⟨true, a, xs, e, h, t⟩
theorem sqK_ex {k : Bool} {a : Addr} {xs : List V} (e : Ex I H) (h : SqK K I k a xs) : SqK K H k a xs := by
  cases k
  · exact Evl.ex_l e h
  · exact Evl.ex_t e h
theorem gi_enum {ta : TA} {post : List D → List Cell → Prop} (h : GoDs K n ta ρ ts g fun ds g1 => ∃ d es, ds = [d] ∧ (d = .list es ∨ d = .tuple es) ∧ post (enumD es) g1) : GoI K n (iEnum1 K ta) ρ ts g post := by
  intro I0 H0 bs σ vs H hn w R q
  refine h I0 H0 bs σ vs H hn w _ fun ws H1 ss g1 hl ⟨I, ls, w1⟩ ⟨ds, e, d, es, e2, hd, p⟩ => ?_
  subst e e2
  obtain ⟨w2, r⟩ := w1.pops hl
  obtain ⟨v, rfl, i⟩ := all1 (rels_d r)
  obtain ⟨k, a, xs, rfl, hs, ha⟩ := is_seq hd i
  have le : (enumD es).length = es.length := by unfold enumD; simp
  refine ⟨k, a, xs, rfl, sqK_ex w2.fr.ih hs, q _ H1 g1 _ I ls w2 ⟨fun i I2 H2 e1 e2 hi => ⟨xs, sqK_ex e2 (sqK_ex e1 hs), by rw [ha.length]; rw [le] at hi; exact hi⟩, fun I2 H2 e1 e2 => ⟨xs, sqK_ex e2 (sqK_ex e1 hs), by rw [le, ha.length]⟩, fun i d I2 H2 x H' e1 e2 hi hy => ?_⟩ p⟩
  obtain ⟨T, y, rfl, hT, rfl, f1⟩ := hy
  have hx := f1 xs (sqK_ex e2 (sqK_ex e1 hs))
  obtain ⟨dy, ey, iy⟩ := (ha.mono e1).getV hx
  have lt : i < es.length := (List.getElem?_eq_some_iff.mp ey).1
  have ed : d = .tuple [.int (i : Nat), dy] := by
    unfold enumD at hi
    rw [List.getElem?_map, zip_at (List.getElem?_range lt) ey] at hi
    exact (Option.some.inj hi).symm
  subst ed
  exact ⟨upd I2 T (.tup [.int (i : Nat), y]), fr_new e2 hT, .tup (.inl (.inl upd_same)) (IsAll.mono (fr_new (o := .tup [.int (i : Nat), y]) e2 hT).ii (.cons (.int _) (.cons iy .nil)))⟩
theorem gi_zip2 {ta : TA} {post : List D → List Cell → Prop} (h : GoDs K n ta ρ ts g fun ds g1 => ∃ d d2 es es2, ds = [d, d2] ∧ (d = .list es ∨ d = .tuple es) ∧ (d2 = .list es2 ∨ d2 = .tuple es2) ∧ post (zipD2 es es2) g1) : GoI K n (iZip2 K ta) ρ ts g post := by
  intro I0 H0 bs σ vs H hn w R q
  refine h I0 H0 bs σ vs H hn w _ fun ws H1 ss g1 hl ⟨I, ls, w1⟩ ⟨ds, e, d, d2, es, es2, e2, hd, hd2, p⟩ => ?_
  subst e e2
  obtain ⟨w2, r⟩ := w1.pops hl
  obtain ⟨v, v2, rfl, i, i2⟩ := all2 (rels_d r)
  obtain ⟨k, a, xs, rfl, hs, ha⟩ := is_seq hd i
  obtain ⟨k2, a2, xs2, rfl, hs2, ha2⟩ := is_seq hd2 i2
  have le : (zipD2 es es2).length = min es.length es2.length := by unfold zipD2; simp
  have s1 : ∀ {I2 H2}, Ex I I2 → Ex I2 H2 → SqK K H2 k a xs := fun e1 e2 => sqK_ex e2 (sqK_ex e1 hs)
  have s2 : ∀ {I2 H2}, Ex I I2 → Ex I2 H2 → SqK K H2 k2 a2 xs2 := fun e1 e2 => sqK_ex e2 (sqK_ex e1 hs2)
  refine ⟨k, k2, a, a2, xs, xs2, rfl, sqK_ex w2.fr.ih hs, sqK_ex w2.fr.ih hs2, q _ H1 g1 _ I ls w2 ⟨fun i I2 H2 e1 e2 hi => ⟨xs, xs2, s1 e1 e2, s2 e1 e2, by rw [ha.length]; omega, by rw [ha2.length]; omega⟩, fun I2 H2 e1 e2 => ⟨xs, xs2, s1 e1 e2, s2 e1 e2, by rw [le, ha.length, ha2.length]⟩, fun i d I2 H2 x H' e1 e2 hi hy => ?_⟩ p⟩
  obtain ⟨T, y, z, rfl, hT, rfl, f1, f2⟩ := hy
  obtain ⟨dy, ey, iy⟩ := (ha.mono e1).getV (f1 xs (s1 e1 e2))
  obtain ⟨dz, ez, iz⟩ := (ha2.mono e1).getV (f2 xs2 (s2 e1 e2))
  have ed : d = .tuple [dy, dz] := by
    unfold zipD2 at hi
    rw [List.getElem?_map, zip_at ey ez] at hi
    exact (Option.some.inj hi).symm
  subst ed
  exact ⟨upd I2 T (.tup [y, z]), fr_new e2 hT, .tup (.inl (.inl upd_same)) (IsAll.mono (fr_new (o := .tup [y, z]) e2 hT).ii (.cons iy (.cons iz .nil)))⟩
theorem all3 {ws : List V} {d e f : D} (h : IsAll K I ws [d, e, f]) : ∃ v w x, ws = [v, w, x] ∧ Is K I v d ∧ Is K I w e ∧ Is K I x f := by
  cases h with | cons h t => obtain ⟨w, x, rfl, q, r⟩ := all2 t; exact ⟨_, w, x, rfl, h, q, r⟩
theorem gi_zip3 {ta : TA} {post : List D → List Cell → Prop} (h : GoDs K n ta ρ ts g fun ds g1 => ∃ d d2 d3 es es2 es3, ds = [d, d2, d3] ∧ (d = .list es ∨ d = .tuple es) ∧ (d2 = .list es2 ∨ d2 = .tuple es2) ∧ (d3 = .list es3 ∨ d3 = .tuple es3) ∧ post (zipD3 es es2 es3) g1) : GoI K n (iZip3 K ta) ρ ts g post := by
  intro I0 H0 bs σ vs H hn w R q
  refine h I0 H0 bs σ vs H hn w _ fun ws H1 ss g1 hl ⟨I, ls, w1⟩ ⟨ds, e, d, d2, d3, es, es2, es3, e2, hd, hd2, hd3, p⟩ => ?_
  subst e e2
  obtain ⟨w2, r⟩ := w1.pops hl
  obtain ⟨v, v2, v3, rfl, i, i2, i3⟩ := all3 (rels_d r)
  obtain ⟨k, a, xs, rfl, hs, ha⟩ := is_seq hd i
  obtain ⟨k2, a2, xs2, rfl, hs2, ha2⟩ := is_seq hd2 i2
  obtain ⟨k3, a3, xs3, rfl, hs3, ha3⟩ := is_seq hd3 i3
  have le : (zipD3 es es2 es3).length = min (min es.length es2.length) es3.length := by unfold zipD3; simp [Nat.min_assoc]
  have s1 : ∀ {I2 H2}, Ex I I2 → Ex I2 H2 → SqK K H2 k a xs := fun e1 e2 => sqK_ex e2 (sqK_ex e1 hs)
  have s2 : ∀ {I2 H2}, Ex I I2 → Ex I2 H2 → SqK K H2 k2 a2 xs2 := fun e1 e2 => sqK_ex e2 (sqK_ex e1 hs2)
  have s3 : ∀ {I2 H2}, Ex I I2 → Ex I2 H2 → SqK K H2 k3 a3 xs3 := fun e1 e2 => sqK_ex e2 (sqK_ex e1 hs3)
  refine ⟨k, k2, k3, a, a2, a3, xs, xs2, xs3, rfl, sqK_ex w2.fr.ih hs, sqK_ex w2.fr.ih hs2, sqK_ex w2.fr.ih hs3, q _ H1 g1 _ I ls w2 ⟨fun i I2 H2 e1 e2 hi => ⟨xs, xs2, xs3, s1 e1 e2, s2 e1 e2, s3 e1 e2, by rw [ha.length]; omega, by rw [ha2.length]; omega, by rw [ha3.length]; omega⟩, fun I2 H2 e1 e2 => ⟨xs, xs2, xs3, s1 e1 e2, s2 e1 e2, s3 e1 e2, by rw [le, ha.length, ha2.length, ha3.length]⟩, fun i d I2 H2 x H' e1 e2 hi hy => ?_⟩ p⟩
  obtain ⟨T, y, z, u, rfl, hT, rfl, f1, f2, f3⟩ := hy
  obtain ⟨dy, ey, iy⟩ := (ha.mono e1).getV (f1 xs (s1 e1 e2))
  obtain ⟨dz, ez, iz⟩ := (ha2.mono e1).getV (f2 xs2 (s2 e1 e2))
  obtain ⟨du, eu, iu⟩ := (ha3.mono e1).getV (f3 xs3 (s3 e1 e2))
  have ed : d = .tuple [dy, dz, du] := by
    unfold zipD3 at hi
    rw [List.getElem?_map, zip_at ey (zip_at ez eu)] at hi
    exact (Option.some.inj hi).symm
  subst ed
  exact ⟨upd I2 T (.tup [y, z, u]), fr_new e2 hT, .tup (.inl (.inl upd_same)) (IsAll.mono (fr_new (o := .tup [y, z, u]) e2 hT).ii (.cons iy (.cons iz (.cons iu .nil))))⟩
end
end Go
namespace Go
open PySem PySem.Spec PyProof.Rows L2 SetMix ZipE
open Evl (Ex)
def dct (kds : List (Key × D)) : D := .dict (kds.map fun p => (kD p.1, p.2))
def lk {α : Type} (kvs : List (Key × α)) (k : Key) : Option α := (kvs.find? fun kv => decide (kv.1 = k)).map (·.2)
def putA {α : Type} (kvs : List (Key × α)) (k : Key) (v : α) : List (Key × α) :=
  if (kvs.any fun kv => decide (kv.1 = k)) = true then kvs.map (fun kv => if kv.1 = k then (kv.1, v) else kv) else kvs ++ [(k, v)]
def mergeA {α : Type} (kvs more : List (Key × α)) : List (Key × α) := more.foldl (fun acc kv => putA acc kv.1 kv.2) kvs
theorem kD_inj : ∀ {a b : Key}, kD a = kD b → a = b
  | .inl _, .inl _, h => by cases h; rfl
  | .inr _, .inr _, h => by cases h; rfl
  | .inl _, .inr _, h => nomatch h
  | .inr _, .inl _, h => nomatch h
section
variable {K : PySem.W.Frag} {I0 H0 I I' H H' : Hp} {bs ls as : List Addr} {ρ ts : List SV} {g : List Cell} {σ : L2.St} {vs : List V} {n : Nat} {X : Cx}
def KVs (K : PySem.W.Frag) (I : Hp) : List (Key × V) → List (Key × D) → Prop := Paired fun p q => p.1 = q.1 ∧ Is K I p.2 q.2
theorem isKV_inv {p : Key × V} {vs : List (Key × V)} {q : D × D} {ds : List (D × D)} (h : IsKV K I (p :: vs) (q :: ds)) : q.1 = kD p.1 ∧ Is K I p.2 q.2 ∧ IsKV K I vs ds := by
  cases h with | cons i t => exact ⟨rfl, i, t⟩
theorem kvs_of : ∀ {kvs : List (Key × V)} {kds : List (Key × D)}, IsKV K I kvs (kds.map fun p => (kD p.1, p.2)) → KVs K I kvs kds
  | [], [], _ => .nil
  | [], _ :: _, h => by cases h
  | _ :: _, [], h => by cases h
  | _ :: kvs, _ :: kds, h => by
    obtain ⟨a, b, c⟩ := isKV_inv h
    exact .cons ⟨(kD_inj a).symm, b⟩ (kvs_of c)
theorem lk_pos {α : Type} {q : Key × α} {r : List (Key × α)} {k : Key} (z : q.1 = k) : lk (q :: r) k = some q.2 := by
  unfold lk
  rw [List.find?_cons_of_pos (by rw [decide_eq_true_eq]; exact z)]
  rfl
theorem lk_neg {α : Type} {q : Key × α} {r : List (Key × α)} {k : Key} (z : ¬ q.1 = k) : lk (q :: r) k = lk r k := by
  unfold lk
  rw [List.find?_cons_of_neg (by rw [decide_eq_true_eq]; exact z)]
theorem of_kvs : ∀ {kvs : List (Key × V)} {kds : List (Key × D)}, KVs K I kvs kds → IsKV K I kvs (kds.map fun p => (kD p.1, p.2))
  | _, _, .nil => .nil
  | (_, _) :: _, (_, _) :: _, .cons ⟨e, i⟩ t => by
    dsimp only at e
    subst e
    exact .cons i (of_kvs t)
theorem KVs.mono (e : Ex I I') {kvs : List (Key × V)} {kds : List (Key × D)} (h : KVs K I kvs kds) : KVs K I' kvs kds := Paired.imp (fun _ _ ⟨a, b⟩ => ⟨a, b.mono e⟩) h
theorem KVs.any {k : Key} : ∀ {kvs : List (Key × V)} {kds : List (Key × D)}, KVs K I kvs kds → (kvs.any fun kv => decide (kv.1 = k)) = (kds.any fun kv => decide (kv.1 = k))
  | _, _, .nil => rfl
  | _, _, .cons ⟨e, _⟩ t => by rw [List.any_cons, List.any_cons, e, KVs.any t]
theorem KVs.map1 {k : Key} {v : V} {d : D} (i : Is K I v d) : ∀ {kvs : List (Key × V)} {kds : List (Key × D)}, KVs K I kvs kds → KVs K I (kvs.map fun kv => if kv.1 = k then (kv.1, v) else kv) (kds.map fun kv => if kv.1 = k then (kv.1, d) else kv)
  | _, _, .nil => .nil
  | _, _, .cons (a := p) (b := q) ⟨e, j⟩ t => by
    refine .cons ?_ (KVs.map1 i t)
    dsimp only
    by_cases h : q.1 = k
    · rw [if_pos h, if_pos (e.trans h)]; exact ⟨e, i⟩
    · rw [if_neg h, if_neg (fun y => h (e ▸ y))]; exact ⟨e, j⟩
theorem KVs.put {k : Key} {v : V} {d : D} (i : Is K I v d) {kvs : List (Key × V)} {kds : List (Key × D)} (h : KVs K I kvs kds) : KVs K I (putK kvs k v) (putA kds k d) := by
  unfold putK putA
  rw [h.any]
  split
  · exact h.map1 i
  · exact Paired.app h (.cons ⟨rfl, i⟩ .nil)
theorem KVs.merge : ∀ {more : List (Key × V)} {md : List (Key × D)} {kvs : List (Key × V)} {kds : List (Key × D)}, KVs K I more md → KVs K I kvs kds → KVs K I (mergeK kvs more) (mergeA kds md)
  | _, _, _, _, .nil, h => h
  | _, _, _, _, .cons (a := p) (b := q) ⟨e, i⟩ t, h => by
    show KVs K I (mergeK (putK _ p.1 p.2) _) (mergeA (putA _ q.1 q.2) _)
    rw [e]
    exact KVs.merge t (h.put i)
theorem KVs.look {k : Key} {d : D} : ∀ {kvs : List (Key × V)} {kds : List (Key × D)}, KVs K I kvs kds → lk kds k = some d → ∃ v, valV kvs k = some v ∧ Is K I v d
  | _, _, .nil, h => by cases h
  | p :: _, q :: _, .cons ⟨e, i⟩ t, h => by
    by_cases z : q.1 = k
    · rw [lk_pos z] at h
      cases h
      exact ⟨p.2, valV_pos (e.trans z), i⟩
    · rw [lk_neg z] at h
      obtain ⟨v, a, b⟩ := KVs.look t h
      exact ⟨v, by rw [valV_neg (fun y => z (e ▸ y))]; exact a, b⟩
theorem KVs.look0 {k : Key} : ∀ {kvs : List (Key × V)} {kds : List (Key × D)}, KVs K I kvs kds → lk kds k = none → valV kvs k = none
  | _, _, .nil, _ => rfl
  | p :: _, q :: _, .cons ⟨e, i⟩ t, h => by
    by_cases z : q.1 = k
    · rw [lk_pos z] at h
      cases h
    · rw [lk_neg z] at h
      rw [valV_neg (fun y => z (e ▸ y))]
      exact KVs.look0 t h
theorem is_dct {v : V} {kds : List (Key × D)} (h : Is K I v (dct kds)) : ∃ a kvs, v = .ref a ∧ I a = some (.dK kvs) ∧ KVs K I kvs kds := by
  unfold dct at h
  cases h with | dic a b => exact ⟨_, _, rfl, a, kvs_of b⟩
theorem is_kV {v : V} {k : Key} (h : Is K I v (kD k)) : v = kV k := by
  cases k with
  | inl i => exact is_int h
  | inr x => exact is_str h
/-- d[k] -/
theorem gd_dget {td ty : TE} {post : D → List Cell → Prop} (h : GoD K n td ρ ts g fun d g1 => ∃ kds, d = dct kds ∧ GoD K n ty ρ (.d d :: ts) g1 fun dk g2 => ∃ k v, dk = kD k ∧ lk kds k = some v ∧ post v g2) : GoD K n (tDGet td ty) ρ ts g post := by
  intro I0 H0 bs σ vs H hn w Q q
  refine h I0 H0 bs σ vs H hn w _ fun v H1 s g1 w1 ⟨d, e, kds, e2, p⟩ => ?_
  subst e e2
  refine p I0 H0 bs σ _ H1 hn w1 _ fun y H2 s2 g2 ⟨I, ls, w2⟩ ⟨dk, e, k, dv, e2, hk, pp⟩ => ?_
  subst e e2
  obtain ⟨w3, r2⟩ := w2.pop
  obtain ⟨w4, r1⟩ := w3.pop
  cases r1 with
  | d i1 =>
    cases r2 with
    | d i2 =>
      obtain ⟨a, kvs, rfl, ha, hv⟩ := is_dct i1
      cases is_kV i2
      obtain ⟨u, hu, iu⟩ := hv.look hk
      exact ⟨a, u, rfl, .inl ⟨kvs, k, .inl (w4.fr.ih _ _ ha), rfl, hu.symm⟩, q u H2 (.d dv) g2 ⟨I, ls, w4.push (.d iu)⟩ ⟨dv, rfl, pp⟩⟩
/-- d.get(k) -/
theorem gd_dget1 {td ty : TE} {post : D → List Cell → Prop} (h : GoD K n td ρ ts g fun d g1 => ∃ kds, d = dct kds ∧ GoD K n ty ρ (.d d :: ts) g1 fun dk g2 => ∃ k, dk = kD k ∧ (∀ v, lk kds k = some v → post v g2) ∧ (lk kds k = none → post .none g2)) : GoD K n (tDGet1 td ty) ρ ts g post := by
  intro I0 H0 bs σ vs H hn w Q q
  refine h I0 H0 bs σ vs H hn w _ fun v H1 s g1 ⟨I1, ls1, w1⟩ ⟨d, e, kds, e2, p⟩ => ?_
  subst e e2
  have w1' := w1
  obtain ⟨w0, r0⟩ := w1.pop
  cases r0 with
  | d i0 =>
    obtain ⟨a, kvs, rfl, ha, hv⟩ := is_dct i0
    refine ⟨a, rfl, .inl ⟨kvs, .inl (w0.fr.ih _ _ ha)⟩, p I0 H0 bs σ _ H1 hn ⟨I1, ls1, w1'⟩ _ fun y H2 s2 g2 ⟨I, ls, w2⟩ ⟨dk, e, k, e2, ps, pn⟩ => ?_⟩
    subst e e2
    obtain ⟨w3, r2⟩ := w2.pop
    obtain ⟨w4, r1⟩ := w3.pop
    cases r1 with
    | d i1 =>
      cases r2 with
      | d i2 =>
        obtain ⟨a', kvs, e, ha, hv⟩ := is_dct i1
        cases e
        cases is_kV i2
        refine ⟨valV kvs k, .inl ⟨kvs, k, .inl (w4.fr.ih _ _ ha), rfl, rfl⟩, ?_⟩
        cases z : lk kds k with
        | none =>
          rw [hv.look0 z]
          exact q .non H2 (.d .none) g2 ⟨I, ls, w4.push (.d .non)⟩ ⟨_, rfl, pn z⟩
        | some dv =>
          obtain ⟨u, hu, iu⟩ := hv.look z
          rw [hu]
          exact q u H2 (.d dv) g2 ⟨I, ls, w4.push (.d iu)⟩ ⟨dv, rfl, ps dv z⟩
/-- dict(xs), xs a list of pairs -/
def rDictP (K : PySem.W.Frag) : List V → Hp → VK → Prop := fun xs H Q => ∃ (a : Addr) (ps : List Addr) (kvs : List (Key × V)), xs = [.ref a] ∧ SqL K H a (ps.map V.ref) ∧ Paired (fun p kv => SqT K H p [kV kv.1, kv.2]) ps kvs ∧ ∀ p, H p = none → Q (.ref p) (upd H p (.dK (mergeK [] kvs)))
theorem call_dictA (hc : X.calm = true) : CallR X (.type "dict") (rDictP X.K) := call_dictP hc
def prD2 (p : Key × D) : D := .tuple [kD p.1, p.2]
theorem pairs_dct (ex : Ex I H) : ∀ {xs : List V} {kds : List (Key × D)}, IsAll K I xs (kds.map prD2) → ∃ ps kvs, xs = ps.map V.ref ∧ Paired (fun p (kv : Key × V) => SqT K H p [kV kv.1, kv.2]) ps kvs ∧ KVs K I kvs kds
  | _, [], .nil => ⟨[], [], rfl, .nil, .nil⟩
  | _, (k, d) :: kds, .cons i t => by
    obtain ⟨ps, kvs, e, hp, hk⟩ := pairs_dct ex t
    obtain ⟨a, ys, rfl, hs, ha⟩ := is_tup (show Is K I _ (.tuple [kD k, d]) from i)
    obtain ⟨v, w, rfl, i1, i2⟩ := all2 ha
    cases is_kV i1
    exact ⟨a :: ps, (k, w) :: kvs, by rw [e]; rfl, .cons (Evl.ex_t ex hs) hp, .cons ⟨rfl, i2⟩ hk⟩
theorem opd_dict {kds : List (Key × D)} {post : D → Prop} (p : post (dct (mergeA [] kds))) : OpD K (rDictP K) [.list (kds.map prD2)] post := fun I H ws ex hw Q q => by
  obtain ⟨v, rfl, i⟩ := all1 hw
  obtain ⟨a, xs, rfl, hs, ha⟩ := is_list i
  obtain ⟨ps, kvs, rfl, hp, hk⟩ := pairs_dct ex ha
  refine ⟨a, ps, kvs, rfl, .inl (Evl.ex_rd ex hs), hp, fun t ht => ?_⟩
  have f := fr_new (o := .dK (mergeK [] kvs)) ex ht
  exact q _ _ _ _ f (.dic upd_same (of_kvs ((KVs.merge hk .nil).mono f.ii))) p
/-- {k: v for target in iter} -/
theorem Wd.freezeO {p : Addr} {o : HO} (w : Wd K I0 H0 bs ls ρ ts g σ vs I H) (h0 : H0 p = none) (np : p ∉ bs ++ ls) (ip : I p = none) (hp : H p = some o) : Wd K I0 H0 bs ls ρ ts g σ vs (upd I p o) H := by
  have ex : Ex I (upd I p o) := Ex.new ip
  refine ⟨⟨w.fr.ii.trans ex, fun a u e => ?_, w.fr.fr, w.fr.dm, fun a e z => ?_⟩, w.ce.keep ex (fun _ _ _ e => e) (fun a m e => by rw [upd_ne (ne_mem m np)]; exact e), w.lo, w.rs.mono ex, w.rv.mono ex⟩
  · by_cases y : a = p
    · subst y; rw [upd_same] at e; rw [hp]; exact e
    · rw [upd_ne y] at e; exact w.fr.ih a u e
  · rw [upd_ne (fun y : a = p => e (by rw [y]; exact h0))]; exact w.fr.nw a e z
theorem gd_dc {wi : TI} {gt : TG} {tt : TT} {tk tv : TE} {js : List Nat} {post : D → List Cell → Prop} (hm : MonG gt) (hj : InJs js gt)
    (h : GoI K n wi ρ ts g fun items g1 => items.length ≤ 50000 ∧ ∃ Iv : Nat → List (Key × D) → List Cell → Prop, Iv 0 [] g1 ∧
      (∀ i d acc g2, items[i]? = some d → Iv i acc g2 → GoG K g2.length gt d (wipeS ρ js) ts g2 fun ρ' => GoT K g2.length tt ρ' ts g2 fun b g3 =>
        (b = true → GoD K g2.length tk ρ' ts g3 fun dk g4 => GoD K g2.length tv ρ' (.d dk :: ts) g4 fun dv g5 => ∃ k, dk = kD k ∧ g5.length = g2.length ∧ Iv (i + 1) (putA acc k dv) g5) ∧ (b = false → g3.length = g2.length ∧ Iv (i + 1) acc g3)) ∧
      (∀ acc g2, Iv items.length acc g2 → post (dct acc) g2)) : GoD K n (tDc wi gt tt tk tv js) ρ ts g post := by
  intro I0 H0 bs σ vs H hn w Q q
  refine h I0 H0 bs σ vs H hn w _ fun J H1 g1 items I1 ls w1 wk ⟨hz, Iv, iv0, step, fin⟩ Dl hD => ?_
  have h0 : H0 Dl = none := by
    cases z : H0 Dl with
    | none => rfl
    | some o => exact absurd hD (w1.fr.dm Dl (by rw [z]; exact fun y => nomatch y))
  have nD : Dl ∉ bs ++ ls := fun m => w1.ce.in_ Dl m hD
  have i1D : I1 Dl = none := Evl.fresh_back w1.fr.ih hD
  refine ⟨fun i m H => ∃ I acc accV g, i + m = items.length ∧ Wd K I0 H0 bs ls ρ ts g σ vs I H ∧ Ex I1 I ∧ I Dl = none ∧ H Dl = some (.dK accV) ∧ KVs K I accV acc ∧ acc.length ≤ i ∧ Iv i acc g, ⟨items.length, I1, [], [], g1, by omega, ?_, Ex.refl I1, i1D, upd_same, .nil, Nat.le_refl _, iv0⟩, fun i m H2 hW => ?_⟩
  · have hx : ∀ b o, H1 b = some o → upd H1 Dl (.dK []) b = some o := fun b o e => by rw [upd_ne (ne_of_none e hD)]; exact e
    refine ⟨⟨w1.fr.ii, fun b o e => hx b o (w1.fr.ih b o e), fun b o m e => hx b o (w1.fr.fr b o m e), fun b e => ?_, w1.fr.nw⟩, w1.ce.keep (Ex.refl I1) (fun b _ o e => hx b o e) (fun _ _ e => e), w1.lo, w1.rs, w1.rv⟩
    cases z : H1 b with
    | none => exact absurd z (w1.fr.dm b e)
    | some o => rw [hx b o z]; exact fun y => nomatch y
  · obtain ⟨I, acc, accV, g2, em, wd, exI, iD, hDl, ia, hacc, iv⟩ := hW
    by_cases hi : i < items.length
    · refine .inr ⟨wk.go i I H2 exI wd.fr.ih hi, fun H' => ∃ I acc accV g, Wd K I0 H0 bs ls ρ ts g σ vs I H' ∧ Ex I1 I ∧ I Dl = none ∧ H' Dl = some (.dK accV) ∧ KVs K I accV acc ∧ acc.length ≤ i + 1 ∧ Iv (i + 1) acc g, fun H' ⟨I', acc', accV', g', a, b, c, d, e, f, k⟩ => ⟨m - 1, by omega, I', acc', accV', g', by omega, a, b, c, d, e, f, k⟩, fun x H3 hy => ?_⟩
      have hdi : items[i]? = some items[i] := List.getElem?_eq_getElem hi
      obtain ⟨I3, f3, ix⟩ := wk.yld i _ I H2 x H3 exI wd.fr.ih hdi hy
      have wd3 := (wd.step f3)
      have hD3 : H3 Dl = some (.dK accV) := f3.fr Dl _ (fun z => nomatch z) hDl
      have iD3 : I3 Dl = none := f3.nw Dl (by rw [hDl]; exact fun y => nomatch y) iD
      have len2 : (bs ++ ls).length = g2.length := wd3.ce.len
      have wB : World K I3 H3 (bs ++ ls) (wipeS ρ js) (.d items[i] :: ts) g2 (wipe σ js) (x :: vs) H3 := by
        refine ⟨I3, [], Wd.mk (Fr.refl wd3.fr.ih) ?_ (fun _ z => nomatch z) ?_ ?_⟩
        · rw [List.append_nil]; exact wd3.ce
        · rw [List.append_nil]; exact rels_wipes wd3.rs js
        · rw [List.append_nil]; exact .cons (.d ix) wd3.rv
      have back : ∀ ρ' σ' H' g' ts' vs', World K I3 H3 (bs ++ ls) ρ' ts' g' σ' vs' H' → g'.length = g2.length → ∃ I', Wd K I0 H0 bs ls ρ ts g' σ vs I' H' ∧ Ex I3 I' ∧ I' Dl = none ∧ H' Dl = some (.dK accV) ∧ Rels K I' (bs ++ ls) (vs'.map some) ts' := by
        intro ρ' σ' H' g' ts' vs' ⟨I', ls', w'⟩ hl
        have : ls' = [] := by
          have e := w'.ce.len
          rw [List.length_append, hl, len2] at e
          exact List.length_eq_zero_iff.mp (by omega)
        subst this
        have ce := w'.ce
        have rv := w'.rv
        rw [List.append_nil] at ce rv
        exact ⟨I', ⟨wd3.fr.deep wd3.lo w'.fr, ce, wd3.lo, wd3.rs.mono w'.fr.ii, wd3.rv.mono w'.fr.ii⟩, w'.fr.ii, w'.fr.nw Dl (by rw [hD3]; exact fun y => nomatch y) iD3, w'.fr.fr Dl _ nD hD3, rv⟩
      have st := step i _ acc g2 hdi iv
      have gG := st I3 H3 (bs ++ ls) (wipe σ js) vs x H3 len2 wB (fun σ2 H4 => tt σ2 H4 fun b H5 => if b = true then tk σ2 H5 fun y H6 => tv σ2 H6 fun z H7 => ∃ kvs k, y = kV k ∧ H7 Dl = some (.dK kvs) ∧ kvs.length < sizeLine ∧ (∃ I acc2 accV g, Wd K I0 H0 bs ls ρ ts g σ vs I (upd H7 Dl (.dK (putK kvs k z))) ∧ Ex I1 I ∧ I Dl = none ∧ (upd H7 Dl (.dK (putK kvs k z))) Dl = some (.dK accV) ∧ KVs K I accV acc2 ∧ acc2.length ≤ i + 1 ∧ Iv (i + 1) acc2 g) else (∃ I acc accV g, Wd K I0 H0 bs ls ρ ts g σ vs I H5 ∧ Ex I1 I ∧ I Dl = none ∧ H5 Dl = some (.dK accV) ∧ KVs K I accV acc ∧ acc.length ≤ i + 1 ∧ Iv (i + 1) acc g)) fun σ2 ρ2 H4 w4 gT => ?_
      · refine hm x _ H3 _ _ (fun σ2 H4 q4 => ?_) (hj x _ H3 _ gG)
        obtain ⟨q4, e4⟩ := q4
        rw [wipe_wipe] at e4
        exact ⟨e4, q4⟩
      · refine gT I3 H3 (bs ++ ls) σ2 vs H4 len2 w4 _ fun b H5 g5 w5 ⟨pt, pf⟩ => ?_
        cases b with
        | true =>
          rw [if_pos rfl]
          refine pt rfl I3 H3 (bs ++ ls) σ2 vs H5 len2 w5 _ fun y H6 s g6 w6 ⟨dk, es, p6⟩ => ?_
          subst es
          refine p6 I3 H3 (bs ++ ls) σ2 _ H6 len2 w6 _ fun z H7 s7 g7 w7 ⟨dv, es, k, ek, hl7, iv7⟩ => ?_
          subst es ek
          obtain ⟨I6, wd6, ex6, i6D, h6D, rv6⟩ := back _ _ _ _ _ _ w7 hl7
          cases rv6 with
          | cons rz rt =>
            cases rt with
            | cons ry _ =>
              cases rz with
              | d iz =>
                cases ry with
                | d iy =>
                  have exx : Ex I1 I6 := (exI.trans f3.ii).trans ex6
                  have la : accV.length = acc.length := Paired.length ia
                  have lp : (putA acc k dv).length ≤ acc.length + 1 := by
                    unfold putA
                    split
                    · rw [List.length_map]; omega
                    · rw [List.length_append]; exact Nat.le_refl _
                  refine ⟨accV, k, is_kV iy, h6D, by rw [la]; exact Evl.sz_lt (by omega), I6, putA acc k dv, _, g7, ?_, exx, i6D, upd_same, ((ia.mono f3.ii).mono ex6).put iz, by omega, iv7⟩
                  have hx : ∀ b o, b ≠ Dl → H7 b = some o → upd H7 Dl (.dK (putK accV k z)) b = some o := fun b o nb e => by rw [upd_ne nb]; exact e
                  refine ⟨⟨wd6.fr.ii, fun b o e => hx b o (fun y => by rw [y, i6D] at e; cases e) (wd6.fr.ih b o e), fun b o m e => hx b o (fun y => by rw [y, h0] at e; cases e) (wd6.fr.fr b o m e), fun b e => ?_, wd6.fr.nw⟩, wd6.ce.keep (Ex.refl I6) (fun b m o e => hx b o (ne_mem m nD) e) (fun _ _ e => e), wd6.lo, wd6.rs, wd6.rv⟩
                  cases z2 : H7 b with
                  | none => exact absurd z2 (wd6.fr.dm b e)
                  | some o => rw [hx b o (fun y : b = Dl => e (by rw [y]; exact h0)) z2]; exact fun y => nomatch y
        | false =>
          rw [if_neg Bool.false_ne_true]
          obtain ⟨hl5, iv5⟩ := pf rfl
          obtain ⟨I6, wd6, ex6, i6D, h6D, _⟩ := back _ _ _ _ _ _ w5 hl5
          exact ⟨I6, acc, accV, g5, wd6, (exI.trans f3.ii).trans ex6, i6D, h6D, (ia.mono f3.ii).mono ex6, by omega, iv5⟩
    · have e : i = items.length := by omega
      subst e
      refine .inl ⟨wk.stop I H2 exI wd.fr.ih, ?_⟩
      refine q (.ref Dl) H2 (.d (dct acc)) g2 ⟨upd I Dl (.dK accV), ls, (wd.freezeO h0 nD iD hDl).push (.d (.dic upd_same (of_kvs (ia.mono (Ex.new iD)))))⟩ ⟨_, rfl, fin acc g2 iv⟩
end
end Go
namespace Go
open PySem PySem.Spec PyProof.Rows L2 SetMix ZipE
theorem bt_len : bootBuiltins "len" = some (.builtin "len") := by decide +kernel
theorem bt_abs : bootBuiltins "abs" = some (.builtin "abs") := by decide +kernel
theorem bt_max : bootBuiltins "max" = some (.builtin "max") := by decide +kernel
theorem bt_min : bootBuiltins "min" = some (.builtin "min") := by decide +kernel
theorem bt_any : bootBuiltins "any" = some (.builtin "any") := by decide +kernel
theorem bt_all : bootBuiltins "all" = some (.builtin "all") := by decide +kernel
theorem bt_sorted : bootBuiltins "sorted" = some (.builtin "sorted") := by decide +kernel
theorem bt_isinstance : bootBuiltins "isinstance" = some (.builtin "isinstance") := by decide +kernel
theorem bt_tuple : bootBuiltins "tuple" = some (.type "tuple") := by decide +kernel
theorem bt_list : bootBuiltins "list" = some (.type "list") := by decide +kernel
theorem bt_int : bootBuiltins "int" = some (.type "int") := by decide +kernel
theorem bt_bool : bootBuiltins "bool" = some (.type "bool") := by decide +kernel
theorem bt_str : bootBuiltins "str" = some (.type "str") := by decide +kernel
theorem bt_dict : bootBuiltins "dict" = some (.type "dict") := by decide +kernel
theorem bt_set : bootBuiltins "set" = some (.type "set") := by decide +kernel
section
variable {K : PySem.W.Frag} {n : Nat} {ρ ts : List SV} {g : List Cell}
/-- a call that is lent a cell, its first argument a name -/
theorem gd_bag {R : RSpec} {E : XK} {i j : Nat} {tr : TA} {post : D → List Cell → Prop} (hi : ρ[i]? = some (.c j))
    (h : GoDs K n tr ρ (.c j :: ts) g fun ds g1 => ∃ b, g1[j]? = some (some b) ∧ R (.c 0 :: ds.map SV.d) [some b] fun d gb => ∃ b', gb = [some b'] ∧ post d (g1.set j (some b'))) : GoD K n (tCall (spOf K R) [] E (tCons (tVar i) tr)) ρ ts g post :=
  gd_callB (ga_cons (ge_var hi (fun z => nomatch z) (GoA.imp h fun ss g1 ⟨ds, e, b, hb, p⟩ => ⟨j, ds, b, by rw [e], hb, p⟩)))
theorem gd_lenScr {i : Nat} {ns : List Int} {post : D → List Cell → Prop} (hi : ρ[i]? = some (.s ns)) (p : post (.int ns.length) g) : GoD K n (tCB (rLenA K) (tCons (tVar i) tNil)) ρ ts g post :=
  gd_lenN rLenA_seq (ge_var hi (fun z => nomatch z) ⟨ns, rfl, p⟩)
theorem gd_ixScr {i : Nat} {ns : List Int} {tb : TE} {post : D → List Cell → Prop} (hi : ρ[i]? = some (.s ns)) (h : GoD K n tb ρ (.s ns :: ts) g fun di g2 => ∃ (i : Int) (z : Int), di = .int i ∧ atI ns i = some z ∧ post (.int z) g2) : GoD K n (tOp (rIx K) (tVar i) tb) ρ ts g post :=
  gd_ixN (ge_var hi (fun z => nomatch z) ⟨ns, rfl, h⟩)
theorem gd_ixCel {i j : Nat} {tb : TE} {post : D → List Cell → Prop} (hi : ρ[i]? = some (.c j)) (h : GoD K n tb ρ (.c j :: ts) g fun di g2 => ∃ (i : Int) (ds : List D) (d : D), di = .int i ∧ g2[j]? = some (some ds) ∧ atI ds i = some d ∧ post d g2) : GoD K n (tOp (rIx K) (tVar i) tb) ρ ts g post :=
  gd_ixC (ge_var hi (fun z => nomatch z) ⟨j, rfl, h⟩)
end
end Go
namespace Go
open PySem PySem.Spec PyProof.Rows L2 SetMix ZipE
local macro_rules | `(tactic| walk_at "g") => `(tactic| first
  | ((with_reducible refine gd_var (d := ?dd) ?hv ?_); (case hv => exact rfl))
  | ((with_reducible refine gd_ixScr (ns := ?ns) ?hv ?_); (case hv => exact rfl))
  | ((with_reducible refine gd_ixCel (j := ?jj) ?hv ?_); (case hv => exact rfl))
  | ((with_reducible refine gd_lenScr (ns := ?ns) ?hv ?_); (case hv => exact rfl))
  | with_reducible first
    | refine gs_seq ?_ | refine gs_next ?_ | refine gs_ret ?_ | refine gs_asgD ?_ | refine gs_if ?_
    | refine gt_test ?_ | refine gt_B ?_ | refine gt_and ?_ | refine gt_or ?_ | refine gt_not ?_ | refine gt_yes ?_
    | refine gd_int ?_ | refine gd_str ?_ | refine gd_bl ?_ | refine gd_non ?_
    | refine gd_op ?_ | refine gd_tup ?_ | refine gd_lst ?_
    | refine gd_cb (r := rLenA _) ?_ | refine gd_cb (r := rTupleA _) ?_ | refine gd_cb (r := rAbsA) ?_ | refine gd_cb (r := rMax2A) ?_ | refine gd_cb (r := rMin2A) ?_ | refine gd_cb (r := rIntA) ?_ | refine gd_cb (r := rAny _) ?_ | refine gd_cb (r := rAll _) ?_ | refine gd_cb (r := rDictP _) ?_ | refine gd_cb (r := rMax _) ?_ | refine gd_cb (r := rMin _) ?_
    | refine gs_cons ?_ | refine gs_nil ?_
    | refine gd_and ?_ | refine gd_or ?_ | refine gd_not ?_
    | refine opd_addI ?_ | refine opd_sub ?_ | refine opd_lt ?_ | refine opd_le ?_ | refine opd_gt ?_ | refine opd_ge ?_
    | refine opd_lenL ?_ | refine opd_lenT ?_ | refine opd_tupleL ?_ | refine opd_tupleT ?_ | refine opd_max2 ?_ | refine opd_min2 ?_ | refine opd_abs ?_ | refine opd_intB ?_
    | refine Exists.intro _ (And.intro rfl ?_))
/-! ### drawing -/
def Bag (b : List D) : Prop := ∃ x y : Int, b = [.int x, .int y] ∧ 0 ≤ x ∧ 0 ≤ y ∧ y < 2147483647
def R_law_bag : NSpec := fun ss post => ∃ (ns : List Int) (k : Nat), ss = [.s ns, .d (.int k)] ∧ k ≤ 63 ∧ ∀ b, Bag b → post b
def R_law_take : RSpec := fun ss g post => ∃ (b : List D) (many : Int), ss = [.c 0, .d (.int many)] ∧ g = [some b] ∧ Bag b ∧ 1 ≤ many ∧ many < 2 ^ 200 ∧ ∀ (m : Int) b', 0 ≤ m → m < many → Bag b' → post (.int m) [some b']
def R_law_of : RSpec := fun ss g post => ∃ (b : List D) (d : D) (es : List D), ss = [.c 0, .d d] ∧ g = [some b] ∧ Bag b ∧ (d = .list es ∨ d = .tuple es) ∧ es ≠ [] ∧ es.length ≤ 1000 ∧ ∀ e b', e ∈ es → Bag b' → post e [some b']
section
variable {K : PySem.W.Frag} {wd : PySem.World}
def t_law_bag (K : PySem.W.Frag) (wd : PySem.World) : TS := (tSeq (tAsg (tC (.int 0)) (gName 2)) (tSeq (tIfS (tTest (tOp (rI0 fun i j => V.bl (decide (i < j))) (tVar 1) (tCB (rLenA K) (tCons (tVar 0) tNil)))) (tAsg (tCB rAbsA (tCons (tOp (rIx K) (tVar 0) (tVar 1)) tNil)) (gName 2)) tNext) (tSeq (tIfS (tTest (tOp (rI0 fun i j => V.bl (decide (i < j))) (tVar 2) (tOp (rI CPow fun i j => V.int (i ^ j.toNat)) (tC (.int 10)) (tC (.int 18))))) (tRet (tLst (tCons (tC (.int 0)) (tCons (tOp (rAddA K) (tC (.int 1)) (tOp (rI (fun _ j => 0 < j) fun i j => V.int (i % j)) (tOp (rAddA K) (tOp (rI CMulW fun i j => V.int (i * j)) (tVar 2) (tC (.int 7919))) (tOp (rI CMulW fun i j => V.int (i * j)) (tC (.int 104729)) (tVar 1))) (tC (.int 2147483646)))) tNil)))) tNext) (tRet (tLst (tCons (tVar 2) (tCons (tOp (rAddA K) (tC (.int 1)) (tOp (rI (fun _ j => 0 < j) fun i j => V.int (i % j)) (tOp (rAddA K) (tVar 2) (tVar 1)) (tC (.int 2147483646)))) tNil)))))))
theorem nab {i : Int} {n : Nat} (h0 : 0 ≤ i) (h : i < n) : i.natAbs < n := by
  have := Int.natAbs_of_nonneg h0
  omega
theorem bag_mk {x z : Int} (h : 0 ≤ x) : Bag [.int x, .int (1 + z % 2147483646)] := ⟨x, _, rfl, h, by have := Int.emod_nonneg z (show (2147483646 : Int) ≠ 0 by decide); omega, by have := Int.emod_lt_of_pos z (show (0 : Int) < 2147483646 by decide); omega⟩
theorem go_law_bag (ss : List SV) (post : List D → Prop) (h : R_law_bag ss post) : GoS K 0 (t_law_bag K wd) (ss ++ List.replicate (3 - ss.length) .no) [] (KN post) := by
  obtain ⟨ns, k, rfl, hk, p⟩ := h
  unfold t_law_bag
  have rest : ∀ cell : Int, 0 ≤ cell → GoS K 0 (tSeq (tIfS (tTest (tOp (rI0 fun i j => V.bl (decide (i < j))) (tVar 2) (tOp (rI CPow fun i j => V.int (i ^ j.toNat)) (tC (.int 10)) (tC (.int 18))))) (tRet (tLst (tCons (tC (.int 0)) (tCons (tOp (rAddA K) (tC (.int 1)) (tOp (rI (fun _ j => 0 < j) fun i j => V.int (i % j)) (tOp (rAddA K) (tOp (rI CMulW fun i j => V.int (i * j)) (tVar 2) (tC (.int 7919))) (tOp (rI CMulW fun i j => V.int (i * j)) (tC (.int 104729)) (tVar 1))) (tC (.int 2147483646)))) tNil)))) tNext) (tRet (tLst (tCons (tVar 2) (tCons (tOp (rAddA K) (tC (.int 1)) (tOp (rI (fun _ j => 0 < j) fun i j => V.int (i % j)) (tOp (rAddA K) (tVar 2) (tVar 1)) (tC (.int 2147483646)))) tNil))))) [.s ns, .d (.int k), .d (.int cell)] [] (KN post) := by
    intro cell hc
    (repeat (walk_at "g"))
    refine opd_pow ⟨by decide, by decide, by decide⟩ ?_
    (repeat (walk_at "g"))
    refine ⟨fun e => ?_, fun _ => ?_⟩
    · have hlt : cell < 10 ^ 18 := by
        have := of_decide_eq_true e
        exact this
      refine gs_retE (ge_lstC ?_)
      (repeat (walk_at "g"))
      refine opd_mul (wide_mul (a := 64) (b := 64) (nab hc (by omega)) (by decide) (by decide) (by decide) (by decide)) ?_
      (repeat (walk_at "g"))
      refine opd_mul (wide_mul (a := 64) (b := 64) (by decide) (nab (by omega) (by omega)) (by decide) (by decide) (by decide)) ?_
      (repeat (walk_at "g"))
      refine opd_mod (by decide) ?_
      (repeat (walk_at "g"))
      exact ⟨by show 2 ≤ 100000; decide, 0, _, rfl, rfl, p _ (bag_mk (by decide))⟩
    · refine gs_next ?_
      refine gs_retE (ge_lstC ?_)
      (repeat (walk_at "g"))
      refine opd_mod (by decide) ?_
      (repeat (walk_at "g"))
      exact ⟨by show 2 ≤ 100000; decide, 0, _, rfl, rfl, p _ (bag_mk hc)⟩
  (repeat (walk_at "g"))
  refine ⟨fun e => ?_, fun _ => ?_⟩
  · have hlt : (k : Int) < ns.length := of_decide_eq_true e
    (repeat (walk_at "g"))
    have hk2 : k < ns.length := by omega
    refine ⟨k, _, rfl, atI_nat (List.getElem?_eq_getElem hk2), ?_⟩
    walk_at "g"
    walk_at "g"
    refine rest _ ?_
    split <;> omega
  · exact gs_next (rest 0 (by decide))
def t_law_take (K : PySem.W.Frag) (wd : PySem.World) : TS := (tSeq (tIfS (tTest (tOp (rI0 fun i j => V.bl (decide (j < i))) (tOp (rIx K) (tVar 0) (tC (.int 0))) (tC (.int 0)))) (tSeq (tAsg (tOp (rI (fun _ j => 0 < j) fun i j => V.int (i % j)) (tOp (rIx K) (tVar 0) (tC (.int 0))) (tVar 1)) (gName 2)) (tSeq (tAsg (tOp (rI CDivW fun i j => V.int (i / j)) (tOp (rIx K) (tVar 0) (tC (.int 0))) (tVar 1)) (gSub (tVar 0) (tC (.int 0)) rSetL)) (tRet (tVar 2)))) tNext) (tSeq (tAsg (tOp (rI (fun _ j => 0 < j) fun i j => V.int (i % j)) (tOp (rI CMulW fun i j => V.int (i * j)) (tOp (rIx K) (tVar 0) (tC (.int 1))) (tC (.int 48271))) (tC (.int 2147483647))) (gSub (tVar 0) (tC (.int 1)) rSetL)) (tRet (tOp (rI (fun _ j => 0 < j) fun i j => V.int (i % j)) (tOp (rI CDivW fun i j => V.int (i / j)) (tOp (rI (fun _ j => 0 < j) fun i j => V.int (i % j)) (tOp (rI CMulW fun i j => V.int (i * j)) (tOp (rIx K) (tVar 0) (tC (.int 1))) (tOp (rIx K) (tVar 0) (tC (.int 1)))) (tC (.int 2147483629))) (tC (.int 64))) (tVar 1)))))
theorem gd_bagAt {n : Nat} {ρ ts : List SV} {i : Nat} {j : Nat} {post : D → List Cell → Prop} {x y : Int} {z : Int} {d : D} {g : List Cell} (hi : ρ[i]? = some (.c j)) (hg : g[j]? = some (some [.int x, .int y])) (hz : atI [PyData.int x, .int y] z = some d) (p : post d g) : GoD K n (tOp (rIx K) (tVar i) (tC (.int z))) ρ ts g post :=
  gd_ixC (ge_var hi (fun z => nomatch z) ⟨j, rfl, gd_int ⟨z, _, d, rfl, hg, hz, p⟩⟩)
theorem go_law_take (ss : List SV) (g : List Cell) (post : D → List Cell → Prop) (h : R_law_take ss g post) : GoS K g.length (t_law_take K wd) (ss ++ List.replicate (3 - ss.length) .no) g (KF g.length post) := by
  obtain ⟨b, many, rfl, rfl, ⟨x, y, rfl, hx, hy, hy2⟩, h1, h2, p⟩ := h
  unfold t_law_take
  refine gs_seq (gs_if (gt_test (gd_op ?_)))
  refine gd_bagAt rfl rfl rfl ?_
  (repeat (walk_at "g"))
  refine ⟨fun e => ?_, fun e => ?_⟩
  · have hx0 : 0 < x := of_decide_eq_true e
    refine gs_seq (gs_asgD (gd_op ?_))
    refine gd_bagAt rfl rfl rfl ?_
    (repeat (walk_at "g"))
    refine opd_mod (by omega) ?_
    refine gs_seq ?_
    refine gs_set (gd_op (gd_bagAt rfl rfl rfl (gd_var rfl (opd_fdiv (wide_div (b := 200) (by omega) (nab (by omega) (by omega)) (by decide) (by decide)) (ge_var rfl (fun z => nomatch z) ⟨0, rfl, gd_int ⟨0, _, 0, rfl, rfl, rfl, ?_⟩⟩)))))
    refine gs_ret (gd_var rfl ⟨_, rfl, ?_⟩)
    exact p _ _ (Int.emod_nonneg _ (by omega)) (Int.emod_lt_of_pos _ (by omega)) ⟨_, _, rfl, Int.ediv_nonneg hx (by omega), hy, hy2⟩
  · refine gs_next ?_
    refine gs_seq ?_
    have h3 : 0 ≤ y * 48271 % 2147483647 := Int.emod_nonneg _ (by decide)
    have h4 : y * 48271 % 2147483647 < 2147483647 := Int.emod_lt_of_pos _ (by decide)
    refine gs_set (gd_op (gd_op (gd_bagAt rfl rfl rfl (gd_int (opd_mul (wide_mul (a := 64) (b := 64) (nab hy (by omega)) (by decide) (by decide) (by decide) (by decide)) (gd_int (opd_mod (by decide) (ge_var rfl (fun z => nomatch z) ⟨0, rfl, gd_int ⟨1, _, 1, rfl, rfl, rfl, ?_⟩⟩))))))))
    generalize y * 48271 % 2147483647 = z at h3 h4 ⊢
    refine gs_ret (gd_op (gd_op (gd_op (gd_op ?_))))
    refine gd_bagAt rfl rfl rfl ?_
    refine gd_bagAt rfl rfl rfl ?_
    refine opd_mul (wide_mul (a := 64) (b := 64) (nab h3 (by omega)) (nab h3 (by omega)) (by decide) (by decide) (by decide)) ?_
    (repeat (walk_at "g"))
    refine opd_mod (by decide) ?_
    (repeat (walk_at "g"))
    refine opd_fdiv (wide_div (b := 64) (by decide) (by decide) (by decide) (by decide)) ?_
    (repeat (walk_at "g"))
    refine opd_mod (by omega) ?_
    refine ⟨_, rfl, ?_⟩
    exact p _ _ (Int.emod_nonneg _ (by omega)) (Int.emod_lt_of_pos _ (by omega)) ⟨_, _, rfl, hx, h3, h4⟩
end
end Go
namespace Go
open PySem PySem.Spec PyProof.Rows L2 SetMix ZipE
local macro_rules | `(tactic| walk_at "g") => `(tactic| first
  | ((with_reducible refine gd_var (d := ?dd) ?hv ?_); (case hv => exact rfl))
  | ((with_reducible refine gd_ixScr (ns := ?ns) ?hv ?_); (case hv => exact rfl))
  | ((with_reducible refine gd_ixCel (j := ?jj) ?hv ?_); (case hv => exact rfl))
  | ((with_reducible refine gd_lenScr (ns := ?ns) ?hv ?_); (case hv => exact rfl))
  | with_reducible first
    | refine gs_seq ?_ | refine gs_next ?_ | refine gs_ret ?_ | refine gs_asgD ?_ | refine gs_if ?_
    | refine gt_test ?_ | refine gt_B ?_ | refine gt_and ?_ | refine gt_or ?_ | refine gt_not ?_ | refine gt_yes ?_
    | refine gd_int ?_ | refine gd_str ?_ | refine gd_bl ?_ | refine gd_non ?_
    | refine gd_op ?_ | refine gd_tup ?_ | refine gd_lst ?_
    | refine gd_cb (r := rLenA _) ?_ | refine gd_cb (r := rTupleA _) ?_ | refine gd_cb (r := rAbsA) ?_ | refine gd_cb (r := rMax2A) ?_ | refine gd_cb (r := rMin2A) ?_ | refine gd_cb (r := rIntA) ?_ | refine gd_cb (r := rAny _) ?_ | refine gd_cb (r := rAll _) ?_ | refine gd_cb (r := rDictP _) ?_ | refine gd_cb (r := rMax _) ?_ | refine gd_cb (r := rMin _) ?_
    | refine gs_cons ?_ | refine gs_nil ?_
    | refine gd_and ?_ | refine gd_or ?_ | refine gd_not ?_
    | refine opd_addI ?_ | refine opd_sub ?_ | refine opd_lt ?_ | refine opd_le ?_ | refine opd_gt ?_ | refine opd_ge ?_
    | refine opd_lenL ?_ | refine opd_lenT ?_ | refine opd_tupleL ?_ | refine opd_tupleT ?_ | refine opd_max2 ?_ | refine opd_min2 ?_ | refine opd_abs ?_ | refine opd_intB ?_
    | refine Exists.intro _ (And.intro rfl ?_))
/-! ### what is drawn -/
structure Cs where
  nm : Str
  us : Int
  lo : Int
  tm : List Str
  pl : List Int
  fi : Int
structure Rw where
  st : Int
  nm : Str
  rm : Int
structure Hs where
  rooms : Int
  ppl : List Str
def encC (c : Cs) : D := .tuple [.str c.nm, .int c.us, .int c.lo, .tuple (c.tm.map PyData.str), .tuple (c.pl.map PyData.int), .int c.fi]
def encR (r : Rw) : D := .tuple [.int r.st, .str r.nm, .int r.rm]
def encH (h : Hs) : D := .tuple [.int h.rooms, .tuple (h.ppl.map PyData.str)]
def encCs (cs : List Cs) : D := .tuple (cs.map encC)
def encP (pl : List Rw) : D := .tuple (pl.map encR)
def five : List Str := ["ann", "bo", "cy", "dee", "eli"]
def eight : List Str := ["ada", "bel", "cid", "dot", "eve", "fin", "gil", "hob"]
def UpK (ks : List Key) : Prop := ks.Nodup ∧ ks.Pairwise fun a b => PySem.W.dataLe false kD a b = true
def UpS (xs : List Str) : Prop := UpK (xs.map Sum.inr)
def UpI (xs : List Int) : Prop := UpK (xs.map Sum.inl)
structure GoodH (h : Hs) : Prop where
  r1 : 1 ≤ h.rooms
  r4 : h.rooms ≤ 4
  fv : ∀ p ∈ h.ppl, p ∈ five
  up : UpS h.ppl
  ln : h.ppl.length ≤ 5
structure GoodC (h : Hs) (c : Cs) : Prop where
  u1 : 1 ≤ c.us
  u2 : c.us ≤ 200
  l1 : c.us ≤ c.lo
  l2 : c.lo ≤ 400
  tm : ∀ p ∈ c.tm, p ∈ h.ppl
  tl : c.tm.length ≤ 2
  tu : UpS c.tm
  p0 : c.pl ≠ []
  pr : ∀ r ∈ c.pl, 0 ≤ r ∧ r < h.rooms
  pn : c.pl.length ≤ 3
  pu : UpI c.pl
  f0 : 0 ≤ c.fi
  f1 : c.fi ≤ 600
structure GoodCs (h : Hs) (cs : List Cs) : Prop where
  nm : cs.map (·.nm) = eight.take cs.length
  l8 : cs.length ≤ 8
  al : ∀ c ∈ cs, GoodC h c
theorem up_of_sort {ks' ks0 : List Key} (h : ks' = ks0.mergeSort (PySem.W.dataLe false kD)) (nd : ks0.Nodup) : UpK ks' := by
  subst h
  refine ⟨(List.mergeSort_perm _ _).nodup_iff.mpr nd, ?_⟩
  exact PySem.W.sort_pairwise (PySem.W.sortLe_total _ false _) ks0
theorem strs_of_keys : ∀ {ks : List Key}, (∀ k ∈ ks, ∃ x, k = .inr x) → ∃ xs : List Str, ks = xs.map Sum.inr
  | [], _ => ⟨[], rfl⟩
  | k :: ks, h => by
    obtain ⟨x, rfl⟩ := h k List.mem_cons_self
    obtain ⟨xs, rfl⟩ := strs_of_keys fun q hq => h q (List.mem_cons_of_mem _ hq)
    exact ⟨x :: xs, rfl⟩
theorem ints_of_keys : ∀ {ks : List Key}, (∀ k ∈ ks, ∃ x, k = .inl x) → ∃ xs : List Int, ks = xs.map Sum.inl
  | [], _ => ⟨[], rfl⟩
  | k :: ks, h => by
    obtain ⟨x, rfl⟩ := h k List.mem_cons_self
    obtain ⟨xs, rfl⟩ := ints_of_keys fun q hq => h q (List.mem_cons_of_mem _ hq)
    exact ⟨x :: xs, rfl⟩
theorem kD_strs (xs : List Str) : (xs.map (Sum.inr : Str → Key)).map kD = xs.map PyData.str := by rw [List.map_map]; rfl
theorem kD_ints (xs : List Int) : (xs.map (Sum.inl : Int → Key)).map kD = xs.map PyData.int := by rw [List.map_map]; rfl
theorem nodup_sub_len {α : Type} [DecidableEq α] : ∀ {l m : List α}, l.Nodup → (∀ x ∈ l, x ∈ m) → l.length ≤ m.length
  | [], _, _, _ => Nat.zero_le _
  | a :: l, m, hn, h => by
    have hm := h a List.mem_cons_self
    have hn2 := List.nodup_cons.mp hn
    have := nodup_sub_len (l := l) (m := m.erase a) hn2.2 fun x hx => (List.mem_erase_of_ne fun e : x = a => hn2.1 (by rw [← e]; exact hx)).mpr (h x (List.mem_cons_of_mem _ hx))
    have e := List.length_erase_of_mem hm
    have : 0 < m.length := List.length_pos_of_mem hm
    rw [List.length_cons]
    omega
section
variable {K : PySem.W.Frag} {wd : PySem.World} {n : Nat} {ρ ts : List SV} {g : List Cell}
theorem gd_take {E : XK} {i j : Nat} {tm : TE} {post : D → List Cell → Prop} (hi : ρ[i]? = some (.c j))
    (h : GoD K n tm ρ (.c j :: ts) g fun d g1 => ∃ (many : Int) (b : List D), d = .int many ∧ g1[j]? = some (some b) ∧ Bag b ∧ 1 ≤ many ∧ many < 2 ^ 200 ∧ ∀ (m : Int) b', 0 ≤ m → m < many → Bag b' → post (.int m) (g1.set j (some b'))) : GoD K n (tCall (spOf K R_law_take) [] E (tCons (tVar i) (tCons tm tNil))) ρ ts g post :=
  gd_bag hi (gs_cons (GoE.imp h fun s g1 ⟨d, e, many, b, e2, hb, bag, h1, h2, p⟩ => ⟨d, e, gs_nil ⟨b, hb, b, many, by rw [e2]; rfl, rfl, bag, h1, h2, fun m b' a c d => ⟨b', rfl, p m b' a c d⟩⟩⟩))
/-- .. of a written number, the one cell the bag -/
theorem gd_takeC {E : XK} {i : Nat} {b : List D} {many : Int} {post : D → List Cell → Prop} (hi : ρ[i]? = some (.c 0)) (hb : Bag b) (h1 : 1 ≤ many ∧ many < 2 ^ 200) (p : ∀ (m : Int) b', 0 ≤ m → m < many → Bag b' → post (.int m) [some b']) : GoD K n (tCall (spOf K R_law_take) [] E (tCons (tVar i) (tCons (tC (.int many)) tNil))) ρ ts [some b] post :=
  gd_take hi (gd_int ⟨many, b, rfl, rfl, hb, h1.1, h1.2, p⟩)
def t_law_of (K : PySem.W.Frag) (wd : PySem.World) : TS := (tRet (tOp (rIx K) (tVar 1) (tCall (spOf K R_law_take) [] E0 (tCons (tVar 0) (tCons (tCB (rLenA K) (tCons (tVar 1) tNil)) tNil)))))
theorem go_law_of (ss : List SV) (g : List Cell) (post : D → List Cell → Prop) (h : R_law_of ss g post) : GoS K g.length (t_law_of K wd) (ss ++ List.replicate (2 - ss.length) .no) g (KF g.length post) := by
  obtain ⟨b, d, es, rfl, rfl, hb, hd, h0, hl, p⟩ := h
  have hpos : 0 < es.length := List.length_pos_iff.mpr h0
  unfold t_law_of
  refine gs_ret (gd_op (gd_var rfl (gd_take rfl ?_)))
  have fin : ∀ (m : Int) b', 0 ≤ m → m < es.length → Bag b' → OpD K (un2 (rIx K)) [d, .int m] fun d => (KF [some b].length post).rt (.d d) [some b'] := fun m b' h1 h2 hb' => by
    have hm : m.toNat < es.length := by omega
    have e : atI es m = some es[m.toNat] := by
      have := atI_nat (List.getElem?_eq_getElem hm)
      rwa [show ((m.toNat : Nat) : Int) = m by omega] at this
    rcases hd with rfl | rfl
    · exact opd_ixL e ⟨_, rfl, p _ b' (List.getElem_mem hm) hb'⟩
    · exact opd_ixT e ⟨_, rfl, p _ b' (List.getElem_mem hm) hb'⟩
  have len : ∀ post : D → List Cell → Prop, post (.int es.length) [some b] → GoD K [some b].length (tCB (rLenA K) (tCons (tVar 1) tNil)) ([.c 0, .d d] ++ List.replicate (2 - [SV.c 0, .d d].length) .no) [.c 0, .d d] [some b] post := fun post q => by
    refine gd_cb (gs_cons (gd_var rfl (gs_nil ?_)))
    rcases hd with rfl | rfl
    · exact opd_lenL q
    · exact opd_lenT q
  exact len _ ⟨_, b, rfl, rfl, hb, by omega, by omega, fun m b' h1 h2 hb' => fin m b' h1 h2 hb'⟩
def R_law_house : RSpec := fun ss g post => ∃ b, ss = [.c 0] ∧ g = [some b] ∧ Bag b ∧ ∀ h b', GoodH h → Bag b' → post (encH h) [some b']
def t_law_house (K : PySem.W.Frag) (wd : PySem.World) : TS := (tSeq (tAsg (tCB (rSortedA K wd) (tCons (tCB (rSetOf K wd) (tCons (tLc (iRng1 (tCons (tCall (spOf K R_law_take) [] E0 (tCons (tVar 0) (tCons (tC (.int 6)) tNil))) tNil)) (gName 2) tYes (tCall (spOf K R_law_of) [] E0 (tCons (tVar 0) (tCons (tLst (tCons (tC (.str "ann")) (tCons (tC (.str "bo")) (tCons (tC (.str "cy")) (tCons (tC (.str "dee")) (tCons (tC (.str "eli")) tNil)))))) tNil))) [2]) tNil)) tNil)) (gName 1)) (tRet (tTup (tCons (tOp (rAddA K) (tC (.int 1)) (tCall (spOf K R_law_take) [] E0 (tCons (tVar 0) (tCons (tC (.int 4)) tNil)))) (tCons (tCB (rTupleA K) (tCons (tVar 1) tNil)) tNil)))))
theorem go_law_house (ss : List SV) (g : List Cell) (post : D → List Cell → Prop) (h : R_law_house ss g post) : GoS K g.length (t_law_house K wd) (ss ++ List.replicate (3 - ss.length) .no) g (KF g.length post) := by
  obtain ⟨b, rfl, rfl, hb, p⟩ := h
  unfold t_law_house
  refine gs_seq (gs_asgD (gd_sortset (gd_lc mg_name (ij_name (by simp)) (gi_rng1 (gs_cons (gd_takeC rfl hb (by decide) fun m b' h1 h2 hb' => gs_nil ⟨m, rfl, by omega, by omega, ?_⟩))))))
  refine ⟨by rw [rngD_len]; omega, fun i acc g => ∃ xs b, g = [some b] ∧ Bag b ∧ acc = xs.map PyData.str ∧ xs.length ≤ i ∧ ∀ x ∈ xs, x ∈ five, ⟨[], b', rfl, hb', rfl, Nat.le_refl _, fun _ z => nomatch z⟩, fun i d acc g2 hi ⟨xs, b2, e1, hb2, e2, hl, hm⟩ => ?_, fun acc g2 ⟨xs, b2, e1, hb2, e2, hl, hm⟩ => ?_⟩
  · subst e1 e2
    refine gg_name (gt_yes ⟨fun _ => ?_, fun z => nomatch z⟩)
    refine gd_bag rfl ?_
    (repeat (walk_at "g"))
    refine ⟨by decide, ?_⟩
    (repeat (walk_at "g"))
    refine ⟨b2, _, five.map PyData.str, rfl, rfl, hb2, .inl rfl, by decide, by decide, fun e b3 he hb3 => ⟨b3, rfl, rfl, ?_⟩⟩
    obtain ⟨x, hx, rfl⟩ := List.mem_map.mp he
    refine ⟨xs ++ [x], b3, rfl, hb3, by rw [List.map_append]; rfl, by rw [List.length_append]; show xs.length + 1 ≤ i + 1; omega, fun y hy => ?_⟩
    rcases List.mem_append.mp hy with hy | hy
    · exact hm y hy
    · rw [List.mem_singleton] at hy; rw [hy]; exact hx
  · subst e1 e2
    rw [rngD_len] at hl
    refine ⟨xs.map Sum.inr, by rw [kD_strs], by rw [List.length_map]; omega, .inr fun k hk => ?_, fun ks' ks0 hk nd hm0 => ?_⟩
    · obtain ⟨x, _, rfl⟩ := List.mem_map.mp hk
      exact ⟨x, rfl⟩
    · have mem : ∀ k ∈ ks', k ∈ xs.map (Sum.inr : Str → Key) := fun k hk' => (hm0 k).mp ((List.mergeSort_perm _ _).mem_iff.mp (by rw [← hk]; exact hk'))
      obtain ⟨ys, ey⟩ := strs_of_keys (ks := ks') fun k hk' => by
        obtain ⟨x, _, rfl⟩ := List.mem_map.mp (mem k hk')
        exact ⟨x, rfl⟩
      have up := up_of_sort hk nd
      rw [ey] at up mem ⊢
      have h5 : ∀ y ∈ ys, y ∈ five := fun y hy => by
        obtain ⟨x, hx, e⟩ := List.mem_map.mp (mem _ (List.mem_map.mpr ⟨y, hy, rfl⟩))
        cases e
        exact hm _ hx
      rw [kD_strs]
      refine gs_ret (gd_tup (gs_cons (gd_op (gd_int (gd_takeC (b := b2) rfl hb2 (by decide) fun r b3 r0 r4 hb3 => ?_)))))
      (repeat (walk_at "g"))
      refine ⟨by show 2 ≤ 100000; decide, ?_⟩
      refine ⟨_, rfl, ?_⟩
      have nd : ys.Nodup := List.Pairwise.of_map (Sum.inr : Str → Key) (fun a b hne e => hne (congrArg _ e)) up.1
      exact p ⟨1 + r, ys⟩ b3 ⟨by show 1 ≤ 1 + r; omega, by show 1 + r ≤ 4; omega, h5, up, nodup_sub_len nd h5⟩ hb3
end
end Go
namespace Go
open PySem PySem.Spec PyProof.Rows L2 SetMix ZipE
local macro_rules | `(tactic| walk_at "g") => `(tactic| first
  | ((with_reducible refine gd_var (d := ?dd) ?hv ?_); (case hv => exact rfl))
  | ((with_reducible refine gd_ixScr (ns := ?ns) ?hv ?_); (case hv => exact rfl))
  | ((with_reducible refine gd_ixCel (j := ?jj) ?hv ?_); (case hv => exact rfl))
  | ((with_reducible refine gd_lenScr (ns := ?ns) ?hv ?_); (case hv => exact rfl))
  | with_reducible first
    | refine gs_seq ?_ | refine gs_next ?_ | refine gs_ret ?_ | refine gs_asgD ?_ | refine gs_if ?_
    | refine gt_test ?_ | refine gt_B ?_ | refine gt_and ?_ | refine gt_or ?_ | refine gt_not ?_ | refine gt_yes ?_
    | refine gd_int ?_ | refine gd_str ?_ | refine gd_bl ?_ | refine gd_non ?_
    | refine gd_op ?_ | refine gd_tup ?_ | refine gd_lst ?_
    | refine gd_cb (r := rLenA _) ?_ | refine gd_cb (r := rTupleA _) ?_ | refine gd_cb (r := rAbsA) ?_ | refine gd_cb (r := rMax2A) ?_ | refine gd_cb (r := rMin2A) ?_ | refine gd_cb (r := rIntA) ?_ | refine gd_cb (r := rAny _) ?_ | refine gd_cb (r := rAll _) ?_ | refine gd_cb (r := rDictP _) ?_ | refine gd_cb (r := rMax _) ?_ | refine gd_cb (r := rMin _) ?_
    | refine gs_cons ?_ | refine gs_nil ?_
    | refine gd_and ?_ | refine gd_or ?_ | refine gd_not ?_
    | refine opd_addI ?_ | refine opd_sub ?_ | refine opd_lt ?_ | refine opd_le ?_ | refine opd_gt ?_ | refine opd_ge ?_
    | refine opd_lenL ?_ | refine opd_lenT ?_ | refine opd_tupleL ?_ | refine opd_tupleT ?_ | refine opd_max2 ?_ | refine opd_min2 ?_ | refine opd_abs ?_ | refine opd_intB ?_
    | refine Exists.intro _ (And.intro rfl ?_))
section
variable {K : PySem.W.Frag} {wd : PySem.World} {n : Nat} {ρ ts : List SV} {g : List Cell}
/-- an item of a written list at a drawn place -/
theorem opd_pick {es : List D} {m : Int} {post : D → Prop} (h0 : 0 ≤ m) (h1 : m < es.length) (p : ∀ d ∈ es, post d) : OpD K (un2 (rIx K)) [.list es, .int m] post := by
  have hm : m.toNat < es.length := by omega
  have e : atI es m = some es[m.toNat] := by
    have := atI_nat (List.getElem?_eq_getElem hm)
    rwa [show ((m.toNat : Nat) : Int) = m by omega] at this
  exact opd_ixL e (p _ (List.getElem_mem hm))
/-- sorted(set(..)) of drawn texts, of drawn numbers -/
theorem gd_setS {te : TE} {post : D → List Cell → Prop} (h : GoD K n te ρ ts g fun d g1 => ∃ xs : List Str, d = .list (xs.map PyData.str) ∧ xs.length < 4000 ∧ ∀ ys : List Str, UpS ys → (∀ y ∈ ys, y ∈ xs) → (xs ≠ [] → ys ≠ []) → ys.length ≤ xs.length → post (.list (ys.map PyData.str)) g1) :
    GoD K n (tCB (rSortedA K wd) (tCons (tCB (rSetOf K wd) (tCons te tNil)) tNil)) ρ ts g post := by
  refine gd_sortset (GoD.imp h fun d g1 ⟨xs, e, hl, p⟩ => ⟨xs.map Sum.inr, by rw [kD_strs]; exact e, by rw [List.length_map]; exact hl, .inr fun k hk => ?_, fun ks' ks0 hk nd hm => ?_⟩)
  · obtain ⟨x, _, rfl⟩ := List.mem_map.mp hk
    exact ⟨x, rfl⟩
  · have mem : ∀ k, k ∈ ks' ↔ k ∈ xs.map (Sum.inr : Str → Key) := fun k => by rw [hk, (List.mergeSort_perm _ _).mem_iff, hm k]
    obtain ⟨ys, ey⟩ := strs_of_keys (ks := ks') fun k hk' => by
      obtain ⟨x, _, rfl⟩ := List.mem_map.mp ((mem k).mp hk')
      exact ⟨x, rfl⟩
    have up := up_of_sort hk nd
    rw [ey] at up mem ⊢
    have sub : ∀ y ∈ ys, y ∈ xs := fun y hy => by
      obtain ⟨x, hx, e⟩ := List.mem_map.mp ((mem _).mp (List.mem_map.mpr ⟨y, hy, rfl⟩))
      cases e
      exact hx
    rw [kD_strs]
    refine p ys up sub (fun h0 e0 => ?_) (nodup_sub_len (List.Pairwise.of_map (Sum.inr : Str → Key) (fun a b hne e => hne (congrArg _ e)) up.1) sub)
    cases xs with
    | nil => exact h0 rfl
    | cons x xs =>
      have := (mem (.inr x)).mpr (List.mem_map.mpr ⟨x, List.mem_cons_self, rfl⟩)
      rw [e0] at this
      cases this
theorem gd_setI {te : TE} {post : D → List Cell → Prop} (h : GoD K n te ρ ts g fun d g1 => ∃ xs : List Int, d = .list (xs.map PyData.int) ∧ xs.length < 4000 ∧ ∀ ys : List Int, UpI ys → (∀ y ∈ ys, y ∈ xs) → (xs ≠ [] → ys ≠ []) → ys.length ≤ xs.length → post (.list (ys.map PyData.int)) g1) :
    GoD K n (tCB (rSortedA K wd) (tCons (tCB (rSetOf K wd) (tCons te tNil)) tNil)) ρ ts g post := by
  refine gd_sortset (GoD.imp h fun d g1 ⟨xs, e, hl, p⟩ => ⟨xs.map Sum.inl, by rw [kD_ints]; exact e, by rw [List.length_map]; exact hl, .inl fun k hk => ?_, fun ks' ks0 hk nd hm => ?_⟩)
  · obtain ⟨x, _, rfl⟩ := List.mem_map.mp hk
    exact ⟨x, rfl⟩
  · have mem : ∀ k, k ∈ ks' ↔ k ∈ xs.map (Sum.inl : Int → Key) := fun k => by rw [hk, (List.mergeSort_perm _ _).mem_iff, hm k]
    obtain ⟨ys, ey⟩ := ints_of_keys (ks := ks') fun k hk' => by
      obtain ⟨x, _, rfl⟩ := List.mem_map.mp ((mem k).mp hk')
      exact ⟨x, rfl⟩
    have up := up_of_sort hk nd
    rw [ey] at up mem ⊢
    have sub : ∀ y ∈ ys, y ∈ xs := fun y hy => by
      obtain ⟨x, hx, e⟩ := List.mem_map.mp ((mem _).mp (List.mem_map.mpr ⟨y, hy, rfl⟩))
      cases e
      exact hx
    rw [kD_ints]
    refine p ys up sub (fun h0 e0 => ?_) (nodup_sub_len (List.Pairwise.of_map (Sum.inl : Int → Key) (fun a b hne e => hne (congrArg _ e)) up.1) sub)
    cases xs with
    | nil => exact h0 rfl
    | cons x xs =>
      have := (mem (.inl x)).mpr (List.mem_map.mpr ⟨x, List.mem_cons_self, rfl⟩)
      rw [e0] at this
      cases this
theorem eqv_unit (xs : List Str) : PyData.eqv (.tuple (xs.map PyData.str)) (.tuple []) = decide (xs = []) := by
  cases xs with
  | nil => simp [PyData.eqv, PyData.eqvAll]
  | cons x xs => simp [PyData.eqv, PyData.eqvAll]
def okS (x : Str) : Prop := (PyData.str x).canLay0 = true
theorem okS_five : ∀ p ∈ five, okS p := by
  unfold five okS
  decide +kernel
theorem okS_eight : ∀ p ∈ eight, okS p := by
  unfold eight okS
  decide +kernel
theorem lay_strs : ∀ {xs : List Str}, (∀ x ∈ xs, okS x) → PyData.canLayAll0 (xs.map PyData.str) = true
  | [], _ => by simp [PyData.canLayAll0]
  | x :: xs, h => by
    show PyData.canLayAll0 (PyData.str x :: xs.map PyData.str) = true
    unfold PyData.canLayAll0
    rw [Bool.and_eq_true]
    exact ⟨h x List.mem_cons_self, lay_strs fun y hy => h y (List.mem_cons_of_mem _ hy)⟩
theorem dep_strs : ∀ xs : List Str, PyData.depthAll (xs.map PyData.str) = 0
  | [] => by simp [PyData.depthAll]
  | x :: xs => by
    show PyData.depthAll (PyData.str x :: xs.map PyData.str) = 0
    unfold PyData.depthAll
    rw [dep_strs xs]
    simp [PyData.depth]
theorem shaped_strs {xs : List Str} (h : ∀ x ∈ xs, okS x) : SeqAt.shaped (.tuple (xs.map PyData.str)) = true := by
  unfold SeqAt.shaped
  rw [Bool.and_eq_true]
  refine ⟨by unfold PyData.canLay0; exact lay_strs h, decide_eq_true ?_⟩
  unfold PyData.depth
  rw [dep_strs]
  decide
def R_law_case : RSpec := fun ss g post => ∃ (b : List D) (h : Hs) (nm : Str), ss = [.c 0, .d (encH h), .d (.str nm)] ∧ g = [some b] ∧ Bag b ∧ GoodH h ∧ ∀ c b', GoodC h c → c.nm = nm → Bag b' → post (encC c) [some b']
def t_law_case (K : PySem.W.Frag) (wd : PySem.World) : TS := (tSeq (tAsg (tOp (rAddA K) (tC (.int 1)) (tCall (spOf K R_law_take) [] E0 (tCons (tVar 0) (tCons (tOp (rIx K) (tLst (tCons (tC (.int 4)) (tCons (tC (.int 30)) (tCons (tC (.int 200)) tNil)))) (tCall (spOf K R_law_take) [] E0 (tCons (tVar 0) (tCons (tC (.int 3)) tNil)))) tNil)))) (gName 3)) (tSeq (tAsg (tOp (rAddA K) (tVar 3) (tOp (rIx K) (tLst (tCons (tC (.int 0)) (tCons (tCall (spOf K R_law_take) [] E0 (tCons (tVar 0) (tCons (tC (.int 10)) tNil))) (tCons (tCall (spOf K R_law_take) [] E0 (tCons (tVar 0) (tCons (tOp (rAddA K) (tOp (rI0 fun i j => V.int (i - j)) (tC (.int 400)) (tVar 3)) (tC (.int 1))) tNil))) tNil)))) (tCall (spOf K R_law_take) [] E0 (tCons (tVar 0) (tCons (tC (.int 3)) tNil))))) (gName 4)) (tSeq (tAsg (tCB (rSortedA K wd) (tCons (tCB (rSetOf K wd) (tCons (tLc (iRng1 (tCons (tCall (spOf K R_law_take) [] E0 (tCons (tVar 0) (tCons (tC (.int 3)) tNil))) tNil)) (gName 8) (tTest (tOp (rNeD K) (tOp (rIx K) (tVar 1) (tC (.int 1))) (tTup tNil))) (tCall (spOf K R_law_of) [] E0 (tCons (tVar 0) (tCons (tOp (rIx K) (tVar 1) (tC (.int 1))) tNil))) [8]) tNil)) tNil)) (gName 5)) (tSeq (tAsg (tCB (rSortedA K wd) (tCons (tCB (rSetOf K wd) (tCons (tLc (iRng1 (tCons (tOp (rAddA K) (tC (.int 1)) (tCall (spOf K R_law_take) [] E0 (tCons (tVar 0) (tCons (tC (.int 3)) tNil)))) tNil)) (gName 8) tYes (tCall (spOf K R_law_take) [] E0 (tCons (tVar 0) (tCons (tOp (rIx K) (tVar 1) (tC (.int 0))) tNil))) [8]) tNil)) tNil)) (gName 6)) (tSeq (tAsg (tOp (rIx K) (tLst (tCons (tC (.int 0)) (tCons (tC (.int 0)) (tCons (tCall (spOf K R_law_take) [] E0 (tCons (tVar 0) (tCons (tC (.int 20)) tNil))) (tCons (tCall (spOf K R_law_take) [] E0 (tCons (tVar 0) (tCons (tC (.int 601)) tNil))) tNil))))) (tCall (spOf K R_law_take) [] E0 (tCons (tVar 0) (tCons (tC (.int 4)) tNil)))) (gName 7)) (tRet (tTup (tCons (tVar 2) (tCons (tVar 3) (tCons (tVar 4) (tCons (tCB (rTupleA K) (tCons (tVar 5) tNil)) (tCons (tCB (rTupleA K) (tCons (tVar 6) tNil)) (tCons (tVar 7) tNil)))))))))))))
theorem go_law_case (ss : List SV) (g : List Cell) (post : D → List Cell → Prop) (h : R_law_case ss g post) : GoS K g.length (t_law_case K wd) (ss ++ List.replicate (9 - ss.length) .no) g (KF g.length post) := by
  obtain ⟨b, h, nm, rfl, rfl, hb, hH, p⟩ := h
  have five_ok : ∀ x ∈ h.ppl, okS x := fun x hx => okS_five x (hH.fv x hx)
  unfold t_law_case
  -- usual
  refine gs_seq (gs_asgD (gd_op (gd_int (gd_take rfl ?_))))
  refine gd_op ?_
  (repeat (walk_at "g"))
  refine ⟨by show 3 ≤ 100000; decide, gd_takeC rfl hb (by decide) fun m b1 h0 h3 hb1 => opd_pick h0 (by show m < 3; exact h3) fun d hd => ?_⟩
  have hd' : d = .int 4 ∨ d = .int 30 ∨ d = .int 200 := by simpa using hd
  obtain ⟨q, e, q1, q2⟩ : ∃ q : Int, d = .int q ∧ 1 ≤ q ∧ q ≤ 200 := by
    rcases hd' with rfl | rfl | rfl
    · exact ⟨4, rfl, by decide, by decide⟩
    · exact ⟨30, rfl, by decide, by decide⟩
    · exact ⟨200, rfl, by decide, by decide⟩
  subst e
  refine ⟨q, b1, rfl, rfl, hb1, q1, by omega, fun u b2 u0 u1 hb2 => ?_⟩
  (repeat (walk_at "g"))
  -- longest
  refine gd_takeC rfl hb2 (by decide) fun l1 b3 l10 l11 hb3 => ?_
  (repeat (walk_at "g"))
  refine gd_take rfl ?_
  (repeat (walk_at "g"))
  refine ⟨_, b3, rfl, rfl, hb3, by omega, by omega, fun l2 b4 l20 l21 hb4 => ?_⟩
  (repeat (walk_at "g"))
  refine ⟨by show 3 ≤ 100000; decide, gd_takeC rfl hb4 (by decide) fun m2 b5 m20 m21 hb5 => opd_pick m20 (by show m2 < 3; exact m21) fun d hd => ?_⟩
  obtain ⟨ex, e, x0, x1⟩ : ∃ x : Int, d = .int x ∧ 0 ≤ x ∧ 1 + u + x ≤ 400 := by
    have hd' : d = .int 0 ∨ d = .int l1 ∨ d = .int l2 := by simpa using hd
    rcases hd' with rfl | rfl | rfl
    · exact ⟨0, rfl, by decide, by omega⟩
    · exact ⟨l1, rfl, l10, by omega⟩
    · exact ⟨l2, rfl, l20, by omega⟩
  subst e
  (repeat (walk_at "g"))
  -- team
  refine gd_setS (gd_lc mg_name (ij_name (by simp)) (gi_rng1 (gs_cons (gd_takeC (b := b5) rfl hb5 (by decide) fun m b' h1 h2 hb' => gs_nil ⟨m, rfl, by omega, by omega, ?_⟩))))
  refine ⟨by rw [rngD_len]; omega, fun i acc g => ∃ xs b, g = [some b] ∧ Bag b ∧ acc = xs.map PyData.str ∧ xs.length ≤ i ∧ ∀ x ∈ xs, x ∈ h.ppl, ⟨[], b', rfl, hb', rfl, Nat.le_refl _, fun _ z => nomatch z⟩, fun i d acc g2 hi ⟨xs, b2, e1, hb2, e2, hl, hm⟩ => ?_, fun acc g2 ⟨xs, b6, e1, hb6, e2, hl, hm⟩ => ?_⟩
  · subst e1 e2
    refine gg_name ?_
    (repeat (walk_at "g"))
    refine opd_ixT (d := .tuple (h.ppl.map PyData.str)) rfl ?_
    (repeat (walk_at "g"))
    refine ⟨by decide, opd_ne (shaped_strs five_ok) (by decide) ?_⟩
    rw [eqv_unit]
    refine ⟨_, rfl, fun e => ?_, fun e => ⟨rfl, xs, b2, rfl, hb2, rfl, by omega, hm⟩⟩
    have hne : h.ppl ≠ [] := by simpa using e
    refine gd_bag rfl ?_
    (repeat (walk_at "g"))
    refine opd_ixT (d := .tuple (h.ppl.map PyData.str)) rfl ?_
    (repeat (walk_at "g"))
    refine ⟨b2, _, h.ppl.map PyData.str, rfl, rfl, hb2, .inr rfl, fun z => hne (List.map_eq_nil_iff.mp z), by rw [List.length_map]; have := hH.ln; omega, fun e b3 he hb3 => ⟨b3, rfl, rfl, ?_⟩⟩
    obtain ⟨x, hx, rfl⟩ := List.mem_map.mp he
    refine ⟨xs ++ [x], b3, rfl, hb3, by rw [List.map_append]; rfl, by rw [List.length_append]; show xs.length + 1 ≤ i + 1; omega, fun y hy => ?_⟩
    rcases List.mem_append.mp hy with hy | hy
    · exact hm y hy
    · rw [List.mem_singleton] at hy; rw [hy]; exact hx
  subst e1 e2
  rw [rngD_len] at hl
  refine ⟨xs, rfl, by omega, fun team tu tsub _ tlen => ?_⟩
  (repeat (walk_at "g"))
  -- places
  refine gd_setI (gd_lc mg_name (ij_name (by simp)) (gi_rng1 (gs_cons (gd_op (gd_int (gd_takeC (b := b6) rfl hb6 (by decide) fun m3 b' h1 h2 hb' => ?_))))))
  (repeat (walk_at "g"))
  refine ⟨by omega, by omega, ?_⟩
  refine ⟨by rw [rngD_len]; omega, fun i acc g => ∃ xs b, g = [some b] ∧ Bag b ∧ acc = xs.map PyData.int ∧ xs.length = i ∧ ∀ x ∈ xs, 0 ≤ x ∧ x < h.rooms, ⟨[], b', rfl, hb', rfl, rfl, fun _ z => nomatch z⟩, fun i d acc g2 hi ⟨xs, b2, e1, hb2, e2, hl, hm⟩ => ?_, fun acc g2 ⟨ps, b7, e1, hb7, e2, hl3, hm3⟩ => ?_⟩
  · subst e1 e2
    refine gg_name (gt_yes ⟨fun _ => ?_, fun z => nomatch z⟩)
    refine gd_take rfl ?_
    (repeat (walk_at "g"))
    refine opd_ixT (d := .int h.rooms) rfl ⟨h.rooms, b2, rfl, rfl, hb2, hH.r1, by have := hH.r4; omega, fun r b3 r0 r1 hb3 => ⟨rfl, xs ++ [r], b3, rfl, hb3, by rw [List.map_append]; rfl, by rw [List.length_append]; show xs.length + 1 = i + 1; omega, fun y hy => ?_⟩⟩
    rcases List.mem_append.mp hy with hy | hy
    · exact hm y hy
    · rw [List.mem_singleton] at hy; rw [hy]; exact ⟨r0, r1⟩
  subst e1 e2
  rw [rngD_len] at hl3
  refine ⟨ps, rfl, by omega, fun places pu psub pne plen => ?_⟩
  (repeat (walk_at "g"))
  -- first
  refine gd_takeC (b := b7) rfl hb7 (by decide) fun f1 b8 f10 f11 hb8 => ?_
  (repeat (walk_at "g"))
  refine gd_takeC rfl hb8 (by decide) fun f2 b9 f20 f21 hb9 => ?_
  (repeat (walk_at "g"))
  refine ⟨by show 4 ≤ 100000; decide, gd_takeC rfl hb9 (by decide) fun m4 b10 m40 m41 hb10 => opd_pick m40 (by show m4 < 4; exact m41) fun d hd => ?_⟩
  obtain ⟨fi, e, fi0, fi1⟩ : ∃ x : Int, d = .int x ∧ 0 ≤ x ∧ x ≤ 600 := by
    have hd' : d = .int 0 ∨ d = .int 0 ∨ d = .int f1 ∨ d = .int f2 := by simpa using hd
    rcases hd' with rfl | rfl | rfl | rfl
    · exact ⟨0, rfl, by decide, by omega⟩
    · exact ⟨0, rfl, by decide, by omega⟩
    · exact ⟨f1, rfl, f10, by omega⟩
    · exact ⟨f2, rfl, f20, by omega⟩
  subst e
  (repeat (walk_at "g"))
  refine ⟨by show 6 ≤ 100000; decide, _, rfl, ?_⟩
  have psne : ps ≠ [] := by
    intro z
    rw [z] at hl3
    have : (0 : Nat) = (1 + m3).toNat := hl3
    omega
  exact p ⟨nm, 1 + u, 1 + u + ex, team, places, fi⟩ b10 ⟨by show 1 ≤ 1 + u; omega, by show 1 + u ≤ 200; omega, by show 1 + u ≤ 1 + u + ex; omega, by show 1 + u + ex ≤ 400; omega, fun y hy => hm y (tsub y hy), by show team.length ≤ 2; omega, tu, pne psne, fun r hr => hm3 r (psub r hr), by show places.length ≤ 3; omega, pu, fi0, fi1⟩ rfl hb10
end
end Go
namespace Go
open PySem PySem.Spec PyProof.Rows L2 SetMix ZipE
local macro_rules | `(tactic| walk_at "g") => `(tactic| first
  | ((with_reducible refine gd_var (d := ?dd) ?hv ?_); (case hv => exact rfl))
  | ((with_reducible refine gd_ixScr (ns := ?ns) ?hv ?_); (case hv => exact rfl))
  | ((with_reducible refine gd_ixCel (j := ?jj) ?hv ?_); (case hv => exact rfl))
  | ((with_reducible refine gd_lenScr (ns := ?ns) ?hv ?_); (case hv => exact rfl))
  | with_reducible first
    | refine gs_seq ?_ | refine gs_next ?_ | refine gs_ret ?_ | refine gs_asgD ?_ | refine gs_if ?_
    | refine gt_test ?_ | refine gt_B ?_ | refine gt_and ?_ | refine gt_or ?_ | refine gt_not ?_ | refine gt_yes ?_
    | refine gd_int ?_ | refine gd_str ?_ | refine gd_bl ?_ | refine gd_non ?_
    | refine gd_op ?_ | refine gd_tup ?_ | refine gd_lst ?_
    | refine gd_cb (r := rLenA _) ?_ | refine gd_cb (r := rTupleA _) ?_ | refine gd_cb (r := rAbsA) ?_ | refine gd_cb (r := rMax2A) ?_ | refine gd_cb (r := rMin2A) ?_ | refine gd_cb (r := rIntA) ?_ | refine gd_cb (r := rAny _) ?_ | refine gd_cb (r := rAll _) ?_ | refine gd_cb (r := rDictP _) ?_ | refine gd_cb (r := rMax _) ?_ | refine gd_cb (r := rMin _) ?_
    | refine gs_cons ?_ | refine gs_nil ?_
    | refine gd_and ?_ | refine gd_or ?_ | refine gd_not ?_
    | refine opd_addI ?_ | refine opd_sub ?_ | refine opd_lt ?_ | refine opd_le ?_ | refine opd_gt ?_ | refine opd_ge ?_
    | refine opd_lenL ?_ | refine opd_lenT ?_ | refine opd_tupleL ?_ | refine opd_tupleT ?_ | refine opd_max2 ?_ | refine opd_min2 ?_ | refine opd_abs ?_ | refine opd_intB ?_
    | refine Exists.intro _ (And.intro rfl ?_))
structure GoodP (cs : List Cs) (pl : List Rw) : Prop where
  nd : (pl.map (·.nm)).Nodup
  al : ∀ r ∈ pl, ∃ c ∈ cs, c.nm = r.nm ∧ r.rm ∈ c.pl ∧ c.fi ≤ r.st ∧ r.st ≤ c.fi + 399
  ln : pl.length ≤ cs.length
  so : pl.Pairwise fun a b => PySem.W.dataLe false encR a b = true
def R_law_cases : RSpec := fun ss g post => ∃ (b : List D) (h : Hs) (most : Nat), ss = [.c 0, .d (encH h), .d (.int most)] ∧ g = [some b] ∧ Bag b ∧ GoodH h ∧ most ≤ 8 ∧ ∀ cs b', GoodCs h cs → cs.length ≤ most → Bag b' → post (encCs cs) [some b']
def R_law_plan : RSpec := fun ss g post => ∃ (b : List D) (h : Hs) (cs : List Cs), ss = [.c 0, .d (encCs cs)] ∧ g = [some b] ∧ Bag b ∧ GoodCs h cs ∧ ∀ pl b', GoodP cs pl → Bag b' → post (encP pl) [some b']
def R_law_drawn : RSpec := fun ss g post => ∃ (b : List D) (most : Nat), ss = [.c 0, .d (.int most)] ∧ g = [some b] ∧ Bag b ∧ most ≤ 8 ∧ ∀ h cs pl b', GoodH h → GoodCs h cs → cs.length ≤ most → GoodP cs pl → Bag b' → post (.tuple [encH h, encCs cs, encP pl]) [some b']
theorem cut_take (xs : List D) (m : Nat) : cutD xs none (some (m : Int)) = xs.take m := by
  unfold cutD
  rw [HT.sIx_none, HT.sIx_nat, List.drop_zero, Nat.sub_zero]
  by_cases h : m ≤ xs.length
  · rw [Nat.min_eq_left h]
  · rw [Nat.min_eq_right (by omega), List.take_length]
    exact (List.take_of_length_le (by omega)).symm
section
variable {K : PySem.W.Frag} {wd : PySem.World} {n : Nat} {ρ ts : List SV} {g : List Cell}
def t_law_cases (K : PySem.W.Frag) (wd : PySem.World) : TS := (tSeq (tAsg (tSl (rSlL K) (tLst (tCons (tC (.str "ada")) (tCons (tC (.str "bel")) (tCons (tC (.str "cid")) (tCons (tC (.str "dot")) (tCons (tC (.str "eve")) (tCons (tC (.str "fin")) (tCons (tC (.str "gil")) (tCons (tC (.str "hob")) tNil))))))))) tNoPart (tPart (tCall (spOf K R_law_take) [] E0 (tCons (tVar 0) (tCons (tOp (rAddA K) (tVar 2) (tC (.int 1))) tNil))))) (gName 3)) (tRet (tCB (rTupleA K) (tCons (tLc (iList K (tVar 3)) (gName 4) tYes (tCall (spOf K R_law_case) [] E0 (tCons (tVar 0) (tCons (tVar 1) (tCons (tVar 4) tNil)))) [4]) tNil))))
theorem go_law_cases (ss : List SV) (g : List Cell) (post : D → List Cell → Prop) (h : R_law_cases ss g post) : GoS K g.length (t_law_cases K wd) (ss ++ List.replicate (5 - ss.length) .no) g (KF g.length post) := by
  obtain ⟨b, h, most, rfl, rfl, hb, hH, hm, p⟩ := h
  unfold t_law_cases
  refine gs_seq (gs_asgD (gd_sl ?_))
  (repeat (walk_at "g"))
  refine ⟨by decide, _, rfl, go_none (go_some (gd_take rfl ?_))⟩
  (repeat (walk_at "g"))
  refine ⟨_, b, rfl, rfl, hb, by omega, by omega, fun m b1 m0 m1 hb1 => ⟨m, rfl, ?_⟩⟩
  obtain ⟨k, rfl⟩ : ∃ k : Nat, m = k := ⟨m.toNat, by omega⟩
  have e8 : cutD [PyData.str "ada", .str "bel", .str "cid", .str "dot", .str "eve", .str "fin", .str "gil", .str "hob"] none (some (k : Int)) = (eight.take k).map PyData.str := by
    rw [cut_take, List.map_take]
    rfl
  rw [e8]
  have lk8 : (eight.take k).length = k := by rw [List.length_take]; show min k 8 = k; omega
  (repeat (walk_at "g"))
  refine gd_lc mg_name (ij_name (by simp)) (gi_list (gd_var rfl ⟨_, rfl, ?_⟩))
  refine ⟨by rw [List.length_map, lk8]; omega, fun i acc g => ∃ (cs : List Cs) (b : List D), g = [some b] ∧ Bag b ∧ acc = cs.map encC ∧ cs.map (·.nm) = (eight.take k).take i ∧ ∀ c ∈ cs, GoodC h c, ⟨[], b1, rfl, hb1, rfl, rfl, fun _ z => nomatch z⟩, fun i d acc g2 hi ⟨cs, b2, e1, hb2, e2, en, hc⟩ => ?_, fun acc g2 ⟨cs, b2, e1, hb2, e2, en, hc⟩ => ?_⟩
  · subst e1 e2
    obtain ⟨nm, hnm, rfl⟩ : ∃ nm, (eight.take k)[i]? = some nm ∧ d = .str nm := by
      rw [List.getElem?_map] at hi
      cases z : (eight.take k)[i]? with
      | none => rw [z] at hi; cases hi
      | some nm => rw [z] at hi; exact ⟨nm, rfl, (Option.some.inj hi).symm⟩
    refine gg_name (gt_yes ⟨fun _ => ?_, fun z => nomatch z⟩)
    refine gd_bag rfl ?_
    (repeat (walk_at "g"))
    refine ⟨b2, h, nm, rfl, rfl, hb2, hH, fun c b3 gc cn hb3 => ⟨b3, rfl, rfl, cs ++ [c], b3, rfl, hb3, by rw [List.map_append]; rfl, ?_, fun y hy => ?_⟩⟩
    · rw [List.map_append, en, List.take_add_one, hnm]
      show _ ++ [c.nm] = _ ++ [nm]
      rw [cn]
    · rcases List.mem_append.mp hy with hy | hy
      · exact hc y hy
      · rw [List.mem_singleton] at hy; rw [hy]; exact gc
  · subst e1 e2
    rw [List.length_map, List.take_length] at en
    have lc : cs.length = k := by
      have := congrArg List.length en
      rw [List.length_map, lk8] at this
      exact this
    (repeat (walk_at "g"))
    exact ⟨_, rfl, p cs b2 ⟨by rw [lc]; exact en, by omega, hc⟩ (by omega) hb2⟩
def t_law_plan (K : PySem.W.Frag) (wd : PySem.World) : TS := (tSeq (tAsg (tLst tNil) (gName 2)) (tSeq (tAsg (tOp (rIx K) (tLst (tCons (tC (.int 1)) (tCons (tC (.int 10)) (tCons (tC (.int 60)) (tCons (tC (.int 400)) tNil))))) (tCall (spOf K R_law_take) [] E0 (tCons (tVar 0) (tCons (tC (.int 4)) tNil)))) (gName 3)) (tSeq (tFor (iTup K (tVar 1)) (gName 4) (tIfS (tTest (tOp (rI0 fun i j => V.bl (decide (j < i))) (tCall (spOf K R_law_take) [] E0 (tCons (tVar 0) (tCons (tC (.int 8)) tNil))) (tC (.int 0)))) (tDrop (tBM K "list" rAppend (tVar 2) (tCons (tTup (tCons (tOp (rAddA K) (tOp (rIx K) (tVar 4) (tC (.int 5))) (tCall (spOf K R_law_take) [] E0 (tCons (tVar 0) (tCons (tVar 3) tNil)))) (tCons (tOp (rIx K) (tVar 4) (tC (.int 0))) (tCons (tCall (spOf K R_law_of) [] E0 (tCons (tVar 0) (tCons (tOp (rIx K) (tVar 4) (tC (.int 4))) tNil))) tNil)))) tNil))) tNext)) (tRet (tCB (rTupleA K) (tCons (tCB (rSortedA K wd) (tCons (tVar 2) tNil)) tNil))))))
theorem alike_rows (rs : List Rw) : PySem.W.AllAlike (rs.map encR) := PySem.W.AllAlike.of fun a b => by simp [encR, PySem.W.alike, PySem.W.alikeAll]
theorem depth_row (r : Rw) : (encR r).depth ≤ 16 := by simp [encR, PyData.depth, PyData.depthAll]
theorem lay_row {r : Rw} (h : okS r.nm) : (encR r).canLay0 = true := by
  unfold okS at h
  simp [encR, PyData.canLay0, PyData.canLayAll0] at h ⊢
  exact h
theorem sort_rows (rs : List Rw) : sortD (rs.map encR) = (rs.mergeSort (PySem.W.dataLe false encR)).map encR := (PySem.W.sort_maps (r := PySem.W.dataLe false encR) (s := PySem.W.dataLe false id) (l := rs) encR (fun a _ b _ => rfl)).symm
theorem go_law_plan (ss : List SV) (g : List Cell) (post : D → List Cell → Prop) (h : R_law_plan ss g post) : GoS K g.length (t_law_plan K wd) (ss ++ List.replicate (5 - ss.length) .no) g (KF g.length post) := by
  obtain ⟨b, h, cs, rfl, rfl, hb, hC, p⟩ := h
  unfold t_law_plan
  have okn : ∀ c ∈ cs, okS c.nm := fun c hc => okS_eight _ (List.mem_of_mem_take (by rw [← hC.nm]; exact List.mem_map.mpr ⟨c, hc, rfl⟩))
  have ndn : (cs.map (·.nm)).Nodup := by
    rw [hC.nm]
    exact List.Nodup.sublist (List.take_sublist _ _) (by unfold eight; decide +kernel)
  refine gs_seq (gs_asg (ge_lstC (gs_nil ⟨by decide, ?_⟩)))
  refine gs_seq (gs_asgD (gd_op ?_))
  (repeat (walk_at "g"))
  refine ⟨by decide, gd_take rfl (gd_int ⟨_, b, rfl, rfl, hb, by decide, by decide, fun m b1 m0 m1 hb1 => opd_pick m0 (by show m < 4; exact m1) fun d hd => ?_⟩)⟩
  obtain ⟨far, e, f1, f2⟩ : ∃ x : Int, d = .int x ∧ 1 ≤ x ∧ x ≤ 400 := by
    have hd' : d = .int 1 ∨ d = .int 10 ∨ d = .int 60 ∨ d = .int 400 := by simpa using hd
    rcases hd' with rfl | rfl | rfl | rfl
    · exact ⟨1, rfl, by decide, by decide⟩
    · exact ⟨10, rfl, by decide, by decide⟩
    · exact ⟨60, rfl, by decide, by decide⟩
    · exact ⟨400, rfl, by decide, by decide⟩
  subst e
  refine gs_seq (gs_for (gi_tup (gd_var rfl ⟨_, rfl, ?_⟩)))
  refine ⟨fun i ρ g => ∃ (rows : List Rw) (b : List D) (last : SV), ρ = [.c 0, .d (encCs cs), .c 1, .d (.int far), last] ∧ g = [some b, some (rows.map encR)] ∧ Bag b ∧ rows.length ≤ i ∧ (∀ r ∈ rows, r.nm ∈ (cs.take i).map (·.nm)) ∧ (rows.map (·.nm)).Nodup ∧ ∀ r ∈ rows, ∃ c ∈ cs, c.nm = r.nm ∧ r.rm ∈ c.pl ∧ c.fi ≤ r.st ∧ r.st ≤ c.fi + 399, ⟨[], b1, .no, rfl, rfl, hb1, Nat.le_refl _, (fun _ z => nomatch z), .nil, (fun _ z => nomatch z)⟩, fun i d ρ' g' hi ⟨rows, b2, last, e1, e2, hb2, hl, hn, hnd, hg⟩ _ => ?_, fun ρ' g' ⟨rows, b2, last, e1, e2, hb2, hl, hn, hnd, hg⟩ _ => ?_⟩
  · subst e1 e2
    obtain ⟨c, hci, rfl⟩ : ∃ c, cs[i]? = some c ∧ d = encC c := by
      rw [List.getElem?_map] at hi
      cases z : cs[i]? with
      | none => rw [z] at hi; cases hi
      | some c => rw [z] at hi; exact ⟨c, rfl, (Option.some.inj hi).symm⟩
    have hc : c ∈ cs := List.mem_of_getElem? hci
    have gc := hC.al c hc
    have tk : (cs.take (i + 1)).map (·.nm) = (cs.take i).map (·.nm) ++ [c.nm] := by
      rw [List.take_add_one, hci, List.map_append]
      rfl
    have li : i < cs.length := (List.getElem?_eq_some_iff.mp hci).1
    refine gg_name (gs_if (gt_test (gd_op (gd_take rfl (gd_int ⟨_, b2, rfl, rfl, hb2, by decide, by decide, fun m b3 m0 m1 hb3 => ?_⟩)))))
    (repeat (walk_at "g"))
    refine ⟨fun _ => ?_, fun _ => gs_next ⟨rows, b3, .d (encC c), rfl, rfl, hb3, by omega, fun r hr => by rw [tk]; exact List.mem_append_left _ (hn r hr), hnd, hg⟩⟩
    refine gs_app (ge_var rfl (fun z => nomatch z) ⟨1, rows.map encR, rfl, rfl, ?_⟩)
    refine gd_tup (gs_cons (gd_op (gd_op (gd_var rfl (gd_int (opd_ixT (d := .int c.fi) rfl (gd_take rfl (gd_var rfl ⟨far, b3, rfl, rfl, hb3, f1, by omega, fun q b4 q0 q1 hb4 => opd_addI ?_⟩))))))))
    refine gs_cons (gd_op (gd_var rfl (gd_int (opd_ixT (d := .str c.nm) rfl (gs_cons (gd_bag rfl ?_))))))
    refine gs_cons (gd_op (gd_var rfl (gd_int (opd_ixT (d := .tuple (c.pl.map PyData.int)) rfl (gs_nil ⟨b4, rfl, ?_⟩)))))
    refine ⟨b4, _, c.pl.map PyData.int, rfl, rfl, hb4, .inr rfl, fun z => gc.p0 (List.map_eq_nil_iff.mp z), by rw [List.length_map]; have := gc.pn; omega, fun e b5 he hb5 => ⟨b5, rfl, ?_⟩⟩
    obtain ⟨rm, hrm, rfl⟩ := List.mem_map.mp he
    refine gs_nil ⟨by show 3 ≤ 100000; decide, rows.map encR, rfl, by rw [List.length_map]; have := hC.l8; omega, ?_⟩
    refine ⟨rows ++ [⟨c.fi + q, c.nm, rm⟩], b5, .d (encC c), rfl, ?_, hb5, by rw [List.length_append]; show rows.length + 1 ≤ i + 1; omega, fun r hr => ?_, ?_, fun r hr => ?_⟩
    · show [some b5, some (rows.map encR ++ [encR ⟨c.fi + q, c.nm, rm⟩])] = _
      rw [List.map_append]
      rfl
    · rw [tk]
      rcases List.mem_append.mp hr with hr | hr
      · exact List.mem_append_left _ (hn r hr)
      · rw [List.mem_singleton] at hr; rw [hr]; exact List.mem_append_right _ (List.mem_singleton.mpr rfl)
    · rw [List.map_append]
      refine List.nodup_append.mpr ⟨hnd, by simp, fun x hx y hy => ?_⟩
      have hy' : y = c.nm := by simpa using hy
      obtain ⟨r, hr, rfl⟩ := List.mem_map.mp hx
      intro e
      have nd1 : ((cs.take (i + 1)).map (·.nm)).Nodup := List.Nodup.sublist ((List.take_sublist _ _).map _) ndn
      rw [tk] at nd1
      exact (List.nodup_append.mp nd1).2.2 _ (hn r hr) _ (List.mem_singleton.mpr rfl) (e.trans hy')
    · rcases List.mem_append.mp hr with hr | hr
      · exact hg r hr
      · rw [List.mem_singleton] at hr
        rw [hr]
        exact ⟨c, hc, rfl, hrm, by show c.fi ≤ c.fi + q; omega, by show c.fi + q ≤ c.fi + 399; omega⟩
  · subst e1 e2
    rw [List.length_map] at hl
    refine gs_ret (gd_cb (r := rTupleA K) (gs_cons (gd_cb (r := rSortedA K wd) (gs_cons (gd_give (ge_var rfl (fun z => nomatch z) ⟨1, rows.map encR, rfl, Nat.le_refl 1, rfl, gs_nil (opd_sorted (alike_rows rows) (PySem.W.Sortable.tuples fun r => ⟨_, _, rfl⟩) (fun d hd => ?_) (gs_nil (opd_tupleL ?_)))⟩))))))
    · obtain ⟨r, hr, rfl⟩ := List.mem_map.mp hd
      obtain ⟨c, hc, e, _⟩ := hg r hr
      exact ⟨lay_row (by rw [← e]; exact okn c hc), depth_row r⟩
    · rw [sort_rows]
      have pm := List.mergeSort_perm rows (PySem.W.dataLe false encR)
      exact ⟨_, rfl, p _ b2 ⟨(pm.map _).nodup_iff.mpr hnd, fun r hr => hg r (pm.mem_iff.mp hr), by rw [pm.length_eq]; exact hl, PySem.W.sort_pairwise (PySem.W.sortLe_total _ false _) rows⟩ hb2⟩
def t_law_drawn (K : PySem.W.Frag) (wd : PySem.World) : TS := (tSeq (tAsg (tCall (spOf K R_law_house) [] E0 (tCons (tVar 0) tNil)) (gName 2)) (tSeq (tAsg (tCall (spOf K R_law_cases) [] E0 (tCons (tVar 0) (tCons (tVar 2) (tCons (tVar 1) tNil)))) (gName 3)) (tRet (tTup (tCons (tVar 2) (tCons (tVar 3) (tCons (tCall (spOf K R_law_plan) [] E0 (tCons (tVar 0) (tCons (tVar 3) tNil))) tNil)))))))
theorem go_law_drawn (ss : List SV) (g : List Cell) (post : D → List Cell → Prop) (h : R_law_drawn ss g post) : GoS K g.length (t_law_drawn K wd) (ss ++ List.replicate (4 - ss.length) .no) g (KF g.length post) := by
  obtain ⟨b, most, rfl, rfl, hb, hm, p⟩ := h
  unfold t_law_drawn
  refine gs_seq (gs_asgD (gd_bag rfl (gs_nil ⟨b, rfl, b, rfl, rfl, hb, fun h b1 hH hb1 => ⟨b1, rfl, ?_⟩⟩)))
  refine gs_seq (gs_asgD (gd_bag rfl ?_))
  (repeat (walk_at "g"))
  refine ⟨b1, h, most, rfl, rfl, hb1, hH, hm, fun cs b2 hC hl hb2 => ⟨b2, rfl, ?_⟩⟩
  (repeat (walk_at "g"))
  refine gd_bag rfl ?_
  (repeat (walk_at "g"))
  refine ⟨b2, h, cs, rfl, rfl, hb2, hC, fun pl b3 hP hb3 => ⟨b3, rfl, ?_⟩⟩
  (repeat (walk_at "g"))
  exact ⟨by show 3 ≤ 100000; decide, _, rfl, p h cs pl b3 hH hC hl hP hb3⟩
end
end Go
namespace Go
open PySem PySem.Spec PyProof.Rows L2 SetMix ZipE
local macro_rules | `(tactic| walk_at "g") => `(tactic| first
  | ((with_reducible refine gd_var (d := ?dd) ?hv ?_); (case hv => exact rfl))
  | ((with_reducible refine gd_ixScr (ns := ?ns) ?hv ?_); (case hv => exact rfl))
  | ((with_reducible refine gd_ixCel (j := ?jj) ?hv ?_); (case hv => exact rfl))
  | ((with_reducible refine gd_lenScr (ns := ?ns) ?hv ?_); (case hv => exact rfl))
  | with_reducible first
    | refine gs_seq ?_ | refine gs_next ?_ | refine gs_ret ?_ | refine gs_asgD ?_ | refine gs_if ?_
    | refine gt_test ?_ | refine gt_B ?_ | refine gt_and ?_ | refine gt_or ?_ | refine gt_not ?_ | refine gt_yes ?_
    | refine gd_int ?_ | refine gd_str ?_ | refine gd_bl ?_ | refine gd_non ?_
    | refine gd_op ?_ | refine gd_tup ?_ | refine gd_lst ?_
    | refine gd_cb (r := rLenA _) ?_ | refine gd_cb (r := rTupleA _) ?_ | refine gd_cb (r := rAbsA) ?_ | refine gd_cb (r := rMax2A) ?_ | refine gd_cb (r := rMin2A) ?_ | refine gd_cb (r := rIntA) ?_ | refine gd_cb (r := rAny _) ?_ | refine gd_cb (r := rAll _) ?_ | refine gd_cb (r := rDictP _) ?_ | refine gd_cb (r := rMax _) ?_ | refine gd_cb (r := rMin _) ?_
    | refine gs_cons ?_ | refine gs_nil ?_
    | refine gd_and ?_ | refine gd_or ?_ | refine gd_not ?_
    | refine opd_addI ?_ | refine opd_sub ?_ | refine opd_lt ?_ | refine opd_le ?_ | refine opd_gt ?_ | refine opd_ge ?_
    | refine opd_lenL ?_ | refine opd_lenT ?_ | refine opd_tupleL ?_ | refine opd_tupleT ?_ | refine opd_max2 ?_ | refine opd_min2 ?_ | refine opd_abs ?_ | refine opd_intB ?_
    | refine Exists.intro _ (And.intro rfl ?_))
instance : Inhabited Cs := ⟨⟨"", 1, 1, [], [], 0⟩⟩
instance : Inhabited Rw := ⟨⟨0, "", 0⟩⟩
structure OkP (cs : List Cs) (pl : List Rw) : Prop where
  nd : (cs.map (·.nm)).Nodup
  lc : cs.length ≤ 8
  lp : pl.length ≤ 8
  mem : ∀ r ∈ pl, ∃ c ∈ cs, c.nm = r.nm
  okn : ∀ c ∈ cs, okS c.nm
  okt : ∀ c ∈ cs, ∀ p ∈ c.tm, okS p
theorem okP_of {h : Hs} {cs : List Cs} {pl : List Rw} (hH : GoodH h) (hC : GoodCs h cs) (hP : GoodP cs pl) : OkP cs pl where
  nd := by
    rw [hC.nm]
    exact List.Nodup.sublist (List.take_sublist _ _) (by unfold eight; decide +kernel)
  lc := hC.l8
  lp := Nat.le_trans hP.ln hC.l8
  mem := fun r hr => by
    obtain ⟨c, hc, e, _⟩ := hP.al r hr
    exact ⟨c, hc, e⟩
  okn := fun c hc => okS_eight _ (List.mem_of_mem_take (by rw [← hC.nm]; exact List.mem_map.mpr ⟨c, hc, rfl⟩))
  okt := fun c hc p hp => okS_five p (hH.fv p ((hC.al c hc).tm p hp))
def getC (cs : List Cs) (nm : Str) : Cs := (cs.find? fun c => decide (c.nm = nm)).getD default
theorem getC_of {cs : List Cs} (nd : (cs.map (·.nm)).Nodup) : ∀ {c : Cs}, c ∈ cs → getC cs c.nm = c := by
  induction cs with
  | nil => intro c h; cases h
  | cons a cs ih =>
    intro c h
    rw [List.map_cons, List.nodup_cons] at nd
    unfold getC
    by_cases e : a.nm = c.nm
    · rw [List.find?_cons_of_pos (by simpa using e)]
      rcases List.mem_cons.mp h with z | z
      · rw [z]; rfl
      · exact absurd (by rw [e]; exact List.mem_map.mpr ⟨c, z, rfl⟩) nd.1
    · rw [List.find?_cons_of_neg (by simpa using e)]
      rcases List.mem_cons.mp h with z | z
      · exact absurd (by rw [z]) e
      · exact ih nd.2 z
theorem OkP.get {cs : List Cs} {pl : List Rw} (ok : OkP cs pl) {r : Rw} (hr : r ∈ pl) : getC cs r.nm ∈ cs ∧ (getC cs r.nm).nm = r.nm := by
  obtain ⟨c, hc, e⟩ := ok.mem r hr
  rw [← e, getC_of ok.nd hc]
  exact ⟨hc, rfl⟩
def prC (c : Cs) : Key × D := (.inr c.nm, encC c)
def dictC (cs : List Cs) : List (Key × D) := mergeA [] (cs.map prC)
theorem merge_snoc {α : Type} (l : List (Key × α)) (x : Key × α) : mergeA [] (l ++ [x]) = putA (mergeA [] l) x.1 x.2 := by
  unfold mergeA
  rw [List.foldl_append]
  rfl
theorem merge_nodup {α : Type} : ∀ (l acc : List (Key × α)), ((acc ++ l).map (·.1)).Nodup → mergeA acc l = acc ++ l
  | [], acc, _ => (List.append_nil acc).symm
  | x :: l, acc, h => by
    have hx : ¬ (acc.any fun kv => decide (kv.1 = x.1)) = true := by
      rw [List.any_eq_true]
      rintro ⟨kv, hk, e⟩
      rw [List.map_append, List.map_cons] at h
      exact (List.nodup_append.mp h).2.2 _ (List.mem_map.mpr ⟨kv, hk, rfl⟩) _ List.mem_cons_self (of_decide_eq_true e)
    have e : putA acc x.1 x.2 = acc ++ [x] := by
      unfold putA
      rw [if_neg hx]
    show mergeA (putA acc x.1 x.2) l = _
    rw [e, merge_nodup l (acc ++ [x]) (by rw [List.append_assoc]; exact h), List.append_assoc]
    rfl
theorem dictC_eq {cs : List Cs} (nd : (cs.map (·.nm)).Nodup) : dictC cs = cs.map prC := by
  unfold dictC
  rw [merge_nodup]
  · rfl
  · rw [List.nil_append, List.map_map]
    have : ((·.1) ∘ prC : Cs → Key) = Sum.inr ∘ (·.nm) := rfl
    rw [this, ← List.map_map]
    exact List.Pairwise.map _ (fun a b hne e => hne (Sum.inr.inj e)) nd
theorem lk_map : ∀ (cs : List Cs) (nm : Str), lk (cs.map prC) (.inr nm) = (cs.find? fun c => decide (c.nm = nm)).map encC
  | [], _ => rfl
  | c :: cs, nm => by
    rw [List.map_cons]
    by_cases e : c.nm = nm
    · rw [lk_pos (show (prC c).1 = .inr nm by rw [← e]; rfl), List.find?_cons_of_pos (by simpa using e)]
      rfl
    · rw [lk_neg (fun z => e (Sum.inr.inj z)), List.find?_cons_of_neg (by simpa using e), lk_map cs nm]
theorem lk_dictC {cs : List Cs} {pl : List Rw} (ok : OkP cs pl) {r : Rw} (hr : r ∈ pl) : lk (dictC cs) (.inr r.nm) = some (encC (getC cs r.nm)) := by
  rw [dictC_eq ok.nd, lk_map]
  obtain ⟨c, hc, e⟩ := ok.mem r hr
  unfold getC
  cases z : cs.find? fun c => decide (c.nm = r.nm) with
  | none => exact absurd (decide_eq_true e) (by have := List.find?_eq_none.mp z c hc; simpa using this)
  | some c => rfl
def planned (cs : List Cs) (pl : List Rw) : List Cs := pl.map fun r => getC cs r.nm
def share (a b : Cs) : Bool := a.tm.any fun p => b.tm.any fun q => q == p
def rmAt (pl : List Rw) (i : Nat) : Int := (pl.getD i default).rm
def csAt (cs : List Cs) (pl : List Rw) (i : Nat) : Cs := getC cs (pl.getD i default).nm
def leanAt (cs : List Cs) (pl : List Rw) (k : Nat) : List Nat := (List.range k).filter fun a => rmAt pl a == rmAt pl k || share (csAt cs pl a) (csAt cs pl k)
def leansM (cs : List Cs) (pl : List Rw) : List (List Nat) := (List.range pl.length).map (leanAt cs pl)
def encI (k : Nat) : D := .int (k : Int)
def encN (ns : List Nat) : D := .tuple (ns.map encI)
def Rby_names : RSpec := fun ss g post => ∃ cs : List Cs, ss = [.d (encCs cs)] ∧ g = [] ∧ cs.length ≤ 8 ∧ post (dct (dictC cs)) []
def Rin_order : RSpec := fun ss g post => ∃ cs pl, ss = [.d (encCs cs), .d (encP pl)] ∧ g = [] ∧ OkP cs pl ∧ post (.list ((planned cs pl).map encC)) []
def Rshare_somebody : RSpec := fun ss g post => ∃ a b : Cs, ss = [.d (encC a), .d (encC b)] ∧ g = [] ∧ a.tm.length ≤ 1000 ∧ post (.bool (share a b)) []
def Rleans : RSpec := fun ss g post => ∃ cs pl, ss = [.d (encCs cs), .d (encP pl)] ∧ g = [] ∧ OkP cs pl ∧ (∀ c ∈ cs, c.tm.length ≤ 1000) ∧ post (.list ((leansM cs pl).map encN)) []
section
variable {K : PySem.W.Frag} {wd : PySem.World} {n : Nat} {ρ ts : List SV} {g : List Cell}
theorem at_map {α : Type} {f : α → D} {l : List α} {i : Nat} {d : D} (h : (l.map f)[i]? = some d) : ∃ a, l[i]? = some a ∧ d = f a := by
  rw [List.getElem?_map] at h
  cases z : l[i]? with
  | none => rw [z] at h; cases h
  | some a => rw [z] at h; exact ⟨a, rfl, (Option.some.inj h).symm⟩
def tby_names (K : PySem.W.Frag) (wd : PySem.World) : TS := (tRet (tDc (iTup K (tVar 0)) (gName 1) tYes (tOp (rIx K) (tVar 1) (tC (.int 0))) (tVar 1) [1]))
theorem go_by_names (ss : List SV) (g : List Cell) (post : D → List Cell → Prop) (h : Rby_names ss g post) : GoS K g.length (tby_names K wd) (ss ++ List.replicate (2 - ss.length) .no) g (KF g.length post) := by
  obtain ⟨cs, rfl, rfl, hl, p⟩ := h
  unfold tby_names
  refine gs_ret (gd_dc mg_name (ij_name (by simp)) (gi_tup (gd_var rfl ⟨_, rfl, ?_⟩)))
  refine ⟨by rw [List.length_map]; omega, fun i acc g => g = [] ∧ acc = mergeA [] ((cs.take i).map prC), ⟨rfl, rfl⟩, fun i d acc g2 hi ⟨e1, e2⟩ => ?_, fun acc g2 ⟨e1, e2⟩ => ?_⟩
  · subst e1 e2
    obtain ⟨c, hc, rfl⟩ := at_map hi
    refine gg_name (gt_yes ⟨fun _ => ?_, fun z => nomatch z⟩)
    (repeat (walk_at "g"))
    refine opd_ixT (d := .str c.nm) rfl ?_
    (repeat (walk_at "g"))
    refine ⟨.inr c.nm, rfl, rfl, rfl, ?_⟩
    rw [List.take_add_one, hc, List.map_append]
    exact (merge_snoc _ (prC c)).symm
  · subst e1 e2
    rw [List.length_map, List.take_length]
    exact ⟨_, rfl, p⟩
def tin_order (K : PySem.W.Frag) (wd : PySem.World) : TS := (tSeq (tAsg (tCall (spOf K Rby_names) [] E0 (tCons (tVar 0) tNil)) (gName 2)) (tRet (tLc (iTup K (tVar 1)) (gTup K 3 (gCons (gName 3) (gCons (gName 4) (gCons (gName 5) gNil)))) tYes (tDGet (tVar 2) (tVar 4)) [3, 4, 5])))
theorem mg3 {a b c : Nat} : MonG (gTup K 3 (gCons (gName a) (gCons (gName b) (gCons (gName c) gNil)))) := mg_tup (mg_cons mg_name (mg_cons mg_name (mg_cons mg_name mg_nil)))
theorem ij3 {js : List Nat} {a b c : Nat} (ha : a ∈ js) (hb : b ∈ js) (hc : c ∈ js) : InJs js (gTup K 3 (gCons (gName a) (gCons (gName b) (gCons (gName c) gNil)))) := ij_tup (ij_cons mg_name (ij_name ha) (ij_cons mg_name (ij_name hb) (ij_cons mg_name (ij_name hc) ij_nil)))
theorem gg3 {a b c : Nat} {x y z : D} {post : List SV → Prop} (p : post (((ρ.set a (.d x)).set b (.d y)).set c (.d z))) : GoG K n (gTup K 3 (gCons (gName a) (gCons (gName b) (gCons (gName c) gNil)))) (.tuple [x, y, z]) ρ ts g post :=
  gg_tup rfl (ggs_cons (gg_name (ggs_cons (gg_name (ggs_cons (gg_name (ggs_nil p)))))))
theorem gg2 {a b : Nat} {x y : D} {post : List SV → Prop} (p : post ((ρ.set a (.d x)).set b (.d y))) : GoG K n (gTup K 2 (gCons (gName a) (gCons (gName b) gNil))) (.tuple [x, y]) ρ ts g post :=
  gg_tup rfl (ggs_cons (gg_name (ggs_cons (gg_name (ggs_nil p)))))
/-- a comprehension that draws nothing: its items one by one -/
theorem gd_map {wi : TI} {gt : TG} {te : TE} {js : List Nat} {post : D → List Cell → Prop} (hm : MonG gt) (hj : InJs js gt)
    (h : GoI K n wi ρ ts g fun items g1 => items.length ≤ 50000 ∧ ∃ f : D → D, (∀ (i : Nat) (d : D), items[i]? = some d → GoG K g1.length gt d (wipeS ρ js) ts g1 fun ρ' => GoD K g1.length te ρ' ts g1 fun e g2 => g2 = g1 ∧ e = f d) ∧ post (.list (items.map f)) g1) : GoD K n (tLc wi gt tYes te js) ρ ts g post := by
  refine gd_lc hm hj fun I0 H0 bs σ vs H hn w R q => h I0 H0 bs σ vs H hn w R fun J H1 g1 items I ls w1 wk ⟨hz, f, st, p⟩ => q J H1 g1 items I ls w1 wk ⟨hz, fun i acc g => g = g1 ∧ acc = (items.take i).map f, ⟨rfl, rfl⟩, fun i d acc g2 hi ⟨e1, e2⟩ => ?_, fun acc g2 ⟨e1, e2⟩ => ?_⟩
  · subst e1 e2
    refine fun I0 H0 bs σ vs v H hn w Q q => st i d hi I0 H0 bs σ vs v H hn w Q fun σ' ρ' H' w' gd => q σ' ρ' H' w' (gt_yes ⟨fun _ => GoD.imp gd fun e g3 ⟨a, b⟩ => ⟨by rw [a], a, ?_⟩, fun z => nomatch z⟩)
    rw [List.take_add_one, hi, List.map_append, b]
    rfl
  · subst e1 e2
    rw [List.take_length]
    exact p
/-- the same, what is walked being xs, each told by enc, giving res -/
theorem gd_mapT {α : Type} {wi : TI} {gt : TG} {te : TE} {js : List Nat} {post : D → List Cell → Prop} (enc res : α → D) (hm : MonG gt) (hj : InJs js gt)
    (h : GoI K n wi ρ ts g fun items g1 => ∃ xs : List α, items = xs.map enc ∧ xs.length ≤ 50000 ∧ (∀ (i : Nat) (a : α), xs[i]? = some a → GoG K g1.length gt (enc a) (wipeS ρ js) ts g1 fun ρ' => GoD K g1.length te ρ' ts g1 fun e g2 => g2 = g1 ∧ e = res a) ∧ post (.list (xs.map res)) g1) : GoD K n (tLc wi gt tYes te js) ρ ts g post := by
  refine gd_lc hm hj fun I0 H0 bs σ vs H hn w R q => h I0 H0 bs σ vs H hn w R fun J H1 g1 items I ls w1 wk ⟨xs, ei, hz, st, p⟩ => q J H1 g1 items I ls w1 wk ⟨by rw [ei, List.length_map]; exact hz, fun i acc g => g = g1 ∧ acc = (xs.take i).map res, ⟨rfl, rfl⟩, fun i d acc g2 hi ⟨e1, e2⟩ => ?_, fun acc g2 ⟨e1, e2⟩ => ?_⟩
  · subst e1 e2
    rw [ei] at hi
    obtain ⟨a, ha, rfl⟩ := at_map hi
    refine fun I0 H0 bs σ vs v H hn w Q q => st i a ha I0 H0 bs σ vs v H hn w Q fun σ' ρ' H' w' gd => q σ' ρ' H' w' (gt_yes ⟨fun _ => GoD.imp gd fun e g3 ⟨x, b⟩ => ⟨by rw [x], x, ?_⟩, fun z => nomatch z⟩)
    rw [List.take_add_one, ha, List.map_append, b]
    rfl
  · subst e1 e2
    rw [ei, List.length_map, List.take_length]
    exact p
def tshare_somebody (K : PySem.W.Frag) (wd : PySem.World) : TS := (tRet (tCB (rAny K) (tCons (tLc (iTup K (tOp (rIx K) (tVar 0) (tC (.int 3)))) (gName 2) tYes (tOp (rIn K false) (tVar 2) (tOp (rIx K) (tVar 1) (tC (.int 3)))) [2]) tNil)))
theorem any_team (p : Str) : ∀ (xs : List Str), ((xs.map PyData.str).any fun y => PyData.eqv y (.str p)) = xs.any fun q => q == p
  | [] => rfl
  | x :: xs => by
    rw [List.map_cons, List.any_cons, List.any_cons, any_team p xs]
    simp [PyData.eqv]
theorem flat_strs : ∀ xs : List Str, (xs.map PyData.str).all flatD = true
  | [] => rfl
  | x :: xs => by rw [List.map_cons, List.all_cons, flat_strs xs]; rfl
theorem go_in_order (ss : List SV) (g : List Cell) (post : D → List Cell → Prop) (h : Rin_order ss g post) : GoS K g.length (tin_order K wd) (ss ++ List.replicate (6 - ss.length) .no) g (KF g.length post) := by
  obtain ⟨cs, pl, rfl, rfl, ok, p⟩ := h
  unfold tin_order
  refine gs_seq (gs_asgD (gd_call ?_))
  (repeat (walk_at "g"))
  refine ⟨cs, rfl, rfl, ok.lc, ?_⟩
  refine gs_ret (gd_mapT encR (fun r => encC (getC cs r.nm)) mg3 (ij3 (by simp) (by simp) (by simp)) (gi_tup (gd_var rfl ⟨_, rfl, pl, rfl, by have := ok.lp; omega, fun i r hr => gg3 ?_, ?_⟩)))
  · exact gd_dget (gd_var rfl ⟨_, rfl, gd_var rfl ⟨.inr r.nm, _, rfl, lk_dictC ok (List.mem_of_getElem? hr), rfl, rfl⟩⟩)
  · refine ⟨_, rfl, ?_⟩
    unfold planned at p
    rw [List.map_map] at p
    exact p
theorem go_share_somebody (ss : List SV) (g : List Cell) (post : D → List Cell → Prop) (h : Rshare_somebody ss g post) : GoS K g.length (tshare_somebody K wd) (ss ++ List.replicate (3 - ss.length) .no) g (KF g.length post) := by
  obtain ⟨a, b, rfl, rfl, hl, p⟩ := h
  unfold tshare_somebody
  refine gs_ret (gd_cb (r := rAny K) (gs_cons (gd_mapT PyData.str (fun q => .bool (b.tm.any fun x => x == q)) mg_name (ij_name (by simp)) (gi_tup (gd_op (gd_var rfl (gd_int (opd_ixT (d := .tuple (a.tm.map PyData.str)) rfl ⟨_, rfl, a.tm, rfl, by omega, fun i q hq => gg_name ?_, ?_⟩))))))))
  · (repeat (walk_at "g"))
    refine opd_ixT (d := .tuple (b.tm.map PyData.str)) rfl (opd_inT rfl (flat_strs _) ⟨rfl, ?_⟩)
    rw [any_team]
    rfl
  · have e : a.tm.map (fun q => PyData.bool (b.tm.any fun x => x == q)) = (a.tm.map fun q => b.tm.any fun x => x == q).map PyData.bool := by
      rw [List.map_map]
      rfl
    rw [e]
    refine gs_nil (opd_any ⟨_, rfl, ?_⟩)
    rw [List.any_map]
    exact p
end
end Go
namespace Go
open PySem PySem.Spec PyProof.Rows L2 SetMix ZipE
local macro_rules | `(tactic| walk_at "g") => `(tactic| first
  | ((with_reducible refine gd_var (d := ?dd) ?hv ?_); (case hv => exact rfl))
  | ((with_reducible refine gd_ixScr (ns := ?ns) ?hv ?_); (case hv => exact rfl))
  | ((with_reducible refine gd_ixCel (j := ?jj) ?hv ?_); (case hv => exact rfl))
  | ((with_reducible refine gd_lenScr (ns := ?ns) ?hv ?_); (case hv => exact rfl))
  | with_reducible first
    | refine gs_seq ?_ | refine gs_next ?_ | refine gs_ret ?_ | refine gs_asgD ?_ | refine gs_if ?_
    | refine gt_test ?_ | refine gt_B ?_ | refine gt_and ?_ | refine gt_or ?_ | refine gt_not ?_ | refine gt_yes ?_
    | refine gd_int ?_ | refine gd_str ?_ | refine gd_bl ?_ | refine gd_non ?_
    | refine gd_op ?_ | refine gd_tup ?_ | refine gd_lst ?_
    | refine gd_cb (r := rLenA _) ?_ | refine gd_cb (r := rTupleA _) ?_ | refine gd_cb (r := rAbsA) ?_ | refine gd_cb (r := rMax2A) ?_ | refine gd_cb (r := rMin2A) ?_ | refine gd_cb (r := rIntA) ?_ | refine gd_cb (r := rAny _) ?_ | refine gd_cb (r := rAll _) ?_ | refine gd_cb (r := rDictP _) ?_ | refine gd_cb (r := rMax _) ?_ | refine gd_cb (r := rMin _) ?_
    | refine gs_cons ?_ | refine gs_nil ?_ | refine gd_dget ?_
    | refine gd_and ?_ | refine gd_or ?_ | refine gd_not ?_
    | refine opd_addI ?_ | refine opd_sub ?_ | refine opd_lt ?_ | refine opd_le ?_ | refine opd_gt ?_ | refine opd_ge ?_
    | refine opd_lenL ?_ | refine opd_lenT ?_ | refine opd_tupleL ?_ | refine opd_tupleT ?_ | refine opd_max2 ?_ | refine opd_min2 ?_ | refine opd_abs ?_ | refine opd_intB ?_
    | refine Exists.intro _ (And.intro rfl ?_))
section
variable {K : PySem.W.Frag} {wd : PySem.World} {n : Nat} {ρ ts : List SV} {g : List Cell}
/-- a comprehension with a test, that draws nothing -/
theorem gd_filT {α : Type} {wi : TI} {gt : TG} {tt : TT} {te : TE} {js : List Nat} {post : D → List Cell → Prop} (enc res : α → D) (pr : α → Bool) (hm : MonG gt) (hj : InJs js gt)
    (h : GoI K n wi ρ ts g fun items g1 => ∃ xs : List α, items = xs.map enc ∧ xs.length ≤ 50000 ∧ (∀ (i : Nat) (a : α), xs[i]? = some a → GoG K g1.length gt (enc a) (wipeS ρ js) ts g1 fun ρ' => GoT K g1.length tt ρ' ts g1 fun b g2 => g2 = g1 ∧ b = pr a ∧ GoD K g1.length te ρ' ts g1 fun e g2 => g2 = g1 ∧ e = res a) ∧ post (.list ((xs.filter pr).map res)) g1) : GoD K n (tLc wi gt tt te js) ρ ts g post := by
  refine gd_lc hm hj fun I0 H0 bs σ vs H hn w R q => h I0 H0 bs σ vs H hn w R fun J H1 g1 items I ls w1 wk ⟨xs, ei, hz, st, p⟩ => q J H1 g1 items I ls w1 wk ⟨by rw [ei, List.length_map]; exact hz, fun i acc g => g = g1 ∧ acc = ((xs.take i).filter pr).map res, ⟨rfl, rfl⟩, fun i d acc g2 hi ⟨e1, e2⟩ => ?_, fun acc g2 ⟨e1, e2⟩ => ?_⟩
  · subst e1 e2
    rw [ei] at hi
    obtain ⟨a, ha, rfl⟩ := at_map hi
    refine fun I0 H0 bs σ vs v H hn w Q q => st i a ha I0 H0 bs σ vs v H hn w Q fun σ' ρ' H' w' gd => q σ' ρ' H' w' (GoT.imp gd fun b g3 ⟨x, eb, ge⟩ => ?_)
    subst x
    have tk : (xs.take (i + 1)).filter pr = (xs.take i).filter pr ++ [a].filter pr := by
      rw [List.take_add_one, ha, List.filter_append]
      rfl
    refine ⟨fun hb => GoD.imp ge fun e g4 ⟨y, ee⟩ => ⟨by rw [y], y, ?_⟩, fun hb => ⟨rfl, rfl, ?_⟩⟩
    · have pa : pr a = true := by rw [← eb]; exact hb
      rw [tk, List.filter_cons_of_pos pa, List.map_append, ee]
      rfl
    · have pa : ¬ pr a = true := by rw [← eb, hb]; decide
      rw [tk, List.filter_cons_of_neg pa]
      show _ = List.map res (_ ++ [])
      rw [List.append_nil]
  · subst e1 e2
    rw [ei, List.length_map, List.take_length]
    exact p
theorem rng_enc (k : Nat) : rngD 0 k = (List.range k).map encI := by
  unfold rngD encI
  congr 1
  funext i
  rw [Int.zero_add]
theorem get_map {α : Type} [Inhabited α] (f : α → D) {l : List α} {i : Nat} (h : i < l.length) : (l.map f)[i]? = some (f (l.getD i default)) := by
  rw [List.getElem?_map, List.getD_eq_getElem?_getD, List.getElem?_eq_getElem h]
  rfl
theorem ix_map {α : Type} [Inhabited α] (f : α → D) {l : List α} {i : Nat} (h : i < l.length) : atI (l.map f) (i : Int) = some (f (l.getD i default)) := atI_nat (get_map f h)
theorem enum_get {es : List D} {i : Nat} {d : D} (h : (enumD es)[i]? = some d) : ∃ e, es[i]? = some e ∧ d = .tuple [.int (i : Nat), e] := by
  unfold enumD at h
  rw [List.getElem?_map] at h
  cases z : ((List.range es.length).zip es)[i]? with
  | none => rw [z] at h; cases h
  | some p =>
    rw [z] at h
    obtain ⟨h1, h2⟩ := List.getElem?_zip_eq_some.mp z
    have lt : i < es.length := (List.getElem?_eq_some_iff.mp h2).1
    rw [List.getElem?_range lt] at h1
    have e1 : p.1 = i := (Option.some.inj h1).symm
    refine ⟨p.2, h2, ?_⟩
    have e2 := (Option.some.inj h).symm
    dsimp only at e2
    rw [e1] at e2
    exact e2
theorem enum_len (es : List D) : (enumD es).length = es.length := by unfold enumD; simp
theorem planned_map {cs : List Cs} {pl : List Rw} : (planned cs pl).map encC = pl.map fun r => encC (getC cs r.nm) := by
  unfold planned
  rw [List.map_map]
  rfl
theorem getD_mem {pl : List Rw} {i : Nat} (h : i < pl.length) : pl.getD i default ∈ pl := by
  rw [List.getD_eq_getElem?_getD, List.getElem?_eq_getElem h]
  exact List.getElem_mem h
theorem range_snoc {α : Type} (f : Nat → α) (i : Nat) : (List.range (i + 1)).map f = (List.range i).map f ++ [f i] := by
  rw [List.range_succ, List.map_append]
  rfl
theorem ix_planned {cs : List Cs} {pl : List Rw} {a : Nat} (la : a < pl.length) : atI ((planned cs pl).map encC) (a : Int) = some (encC (csAt cs pl a)) := by
  have h : ((planned cs pl).map encC)[a]? = some (encC (csAt cs pl a)) := by
    unfold planned csAt
    rw [List.getElem?_map, List.getElem?_map, List.getD_eq_getElem?_getD, List.getElem?_eq_getElem la]
    rfl
  exact atI_nat h
def encRm (r : Rw) : D := .int r.rm
def tleans (K : PySem.W.Frag) (wd : PySem.World) : TS := (tSeq (tAsg (tCall (spOf K Rin_order) [] E0 (tCons (tVar 0) (tCons (tVar 1) tNil))) (gName 2)) (tSeq (tAsg (tLc (iTup K (tVar 1)) (gTup K 3 (gCons (gName 7) (gCons (gName 8) (gCons (gName 9) gNil)))) tYes (tVar 9) [7, 8, 9]) (gName 3)) (tSeq (tAsg (tLst tNil) (gName 4)) (tSeq (tFor (iEnum1 K (tCons (tVar 2) tNil)) (gTup K 2 (gCons (gName 5) (gCons (gName 6) gNil))) (tDrop (tBM K "list" rAppend (tVar 4) (tCons (tCB (rTupleA K) (tCons (tLc (iRng1 (tCons (tVar 5) tNil)) (gName 10) (tOr (tTest (tOp (rEqD K) (tOp (rIx K) (tVar 3) (tVar 10)) (tOp (rIx K) (tVar 3) (tVar 5)))) (tB (tCall (spOf K Rshare_somebody) [] E0 (tCons (tOp (rIx K) (tVar 2) (tVar 10)) (tCons (tVar 6) tNil))))) (tVar 10) [10]) tNil)) tNil)))) (tRet (tVar 4))))))
theorem go_leans (ss : List SV) (g : List Cell) (post : D → List Cell → Prop) (h : Rleans ss g post) : GoS K g.length (tleans K wd) (ss ++ List.replicate (11 - ss.length) .no) g (KF g.length post) := by
  obtain ⟨cs, pl, rfl, rfl, ok, okl, p⟩ := h
  unfold tleans
  refine gs_seq (gs_asgD (gd_call ?_))
  (repeat (walk_at "g"))
  refine ⟨cs, pl, rfl, rfl, ok, ?_⟩
  refine gs_seq (gs_asgD (gd_mapT encR encRm mg3 (ij3 (by simp) (by simp) (by simp)) (gi_tup (gd_var rfl ⟨_, rfl, pl, rfl, by have := ok.lp; omega, fun i r hr => gg3 (gd_var rfl ⟨rfl, rfl⟩), ?_⟩))))
  refine gs_seq (gs_asg (ge_lstC (gs_nil ⟨by decide, ?_⟩)))
  refine gs_seq (gs_for (gi_enum (gs_cons (gd_var rfl (gs_nil ⟨_, _, rfl, .inl rfl, ?_⟩)))))
  refine ⟨fun i ρ g => ∃ (x y : SV), ρ = [.d (encCs cs), .d (encP pl), .d (.list ((planned cs pl).map encC)), .d (.list (pl.map encRm)), .c 0, x, y, .no, .no, .no, .no] ∧ g = [some (((List.range i).map (leanAt cs pl)).map encN)], ⟨.no, .no, rfl, rfl⟩, fun i d ρ' g' hi ⟨x, y, e1, e2⟩ _ => ?_, fun ρ' g' ⟨x, y, e1, e2⟩ _ => ?_⟩
  · subst e1 e2
    obtain ⟨e, he, rfl⟩ := enum_get hi
    rw [planned_map] at he
    obtain ⟨r, hr, rfl⟩ := at_map he
    have li : i < pl.length := (List.getElem?_eq_some_iff.mp hr).1
    have er : r = pl.getD i default := by rw [List.getD_eq_getElem?_getD, hr]; rfl
    refine gg2 (gs_app (ge_var rfl (fun z => nomatch z) ⟨0, _, rfl, rfl, ?_⟩))
    refine gd_cb (r := rTupleA K) (gs_cons (gd_filT encI encI (fun a => rmAt pl a == rmAt pl i || share (csAt cs pl a) (csAt cs pl i)) mg_name (ij_name (by simp)) (gi_rng1 (gs_cons (gd_var rfl (gs_nil ⟨_, rfl, by have := ok.lp; omega, by have := ok.lp; omega, List.range i, rng_enc _, by rw [List.length_range]; have := ok.lp; omega, fun k a ha => gg_name ?_, ?_⟩))))))
    · have ea : a = k ∧ k < i := by
        have lt := (List.getElem?_eq_some_iff.mp ha).1
        rw [List.length_range] at lt
        rw [List.getElem?_range lt] at ha
        exact ⟨(Option.some.inj ha).symm, lt⟩
      obtain ⟨rfl, lt⟩ := ea
      have la : a < pl.length := by omega
      (repeat (walk_at "g"))
      refine opd_ixL (ix_map encRm la) ?_
      (repeat (walk_at "g"))
      refine opd_ixL (ix_map encRm li) (opd_eq rfl rfl ?_)
      refine ⟨_, rfl, fun hb => ?_, fun hb => ?_⟩
      · refine gt_B (gd_call (gs_cons (gd_op (gd_var rfl (gd_var rfl (opd_ixL (d := encC (csAt cs pl a)) ?_ (gs_cons (gd_var rfl (gs_nil ?_)))))))))
        · exact ix_planned la
        · refine ⟨csAt cs pl a, csAt cs pl i, by rw [er]; rfl, rfl, okl _ (ok.get (getD_mem la)).1, _, rfl, rfl, ?_, gd_var rfl ⟨rfl, rfl⟩⟩
          have : (rmAt pl a == rmAt pl i) = false := hb
          rw [this]
          rfl
      · refine ⟨rfl, ?_, gd_var rfl ⟨rfl, rfl⟩⟩
        have : (rmAt pl a == rmAt pl i) = true := hb
        rw [this]
        rfl
    · refine gs_nil (opd_tupleL ⟨_, rfl, ?_, .d (.int i), .d (encC (getC cs r.nm)), rfl, ?_⟩)
      · rw [List.length_map, List.length_map, List.length_range]; have := ok.lp; omega
      · rw [range_snoc, List.map_append]
        rfl
  · subst e1 e2
    rw [enum_len, planned_map, List.length_map]
    refine gs_ret (gd_give (ge_var rfl (fun z => nomatch z) ⟨0, _, rfl, Nat.zero_le _, rfl, _, rfl, ?_⟩))
    exact p
def R_law_leans : RSpec := Rleans
theorem any_comm (xs ys : List Str) : (xs.any fun p => ys.any fun q => q == p) = ys.any fun p => xs.any fun q => q == p := by
  rw [Bool.eq_iff_iff]
  simp only [List.any_eq_true, beq_iff_eq]
  constructor
  · rintro ⟨p, hp, q, hq, e⟩; exact ⟨q, hq, p, hp, e.symm⟩
  · rintro ⟨p, hp, q, hq, e⟩; exact ⟨q, hq, p, hp, e.symm⟩
theorem share_comm (a b : Cs) : share a b = share b a := any_comm a.tm b.tm
def t_law_leans (K : PySem.W.Frag) (wd : PySem.World) : TS := (tSeq (tAsg (tCB (rDictP K) (tCons (tLc (iTup K (tVar 0)) (gName 9) tYes (tTup (tCons (tOp (rIx K) (tVar 9) (tC (.int 0))) (tCons (tVar 9) tNil))) [9]) tNil)) (gName 2)) (tSeq (tAsg (tLst tNil) (gName 3)) (tSeq (tFor (iEnum1 K (tCons (tVar 1) tNil)) (gTup K 2 (gCons (gName 4) (gCons (gName 5) gNil))) (tSeq (tAsg (tLst tNil) (gName 6)) (tSeq (tFor (iRng1 (tCons (tVar 4) tNil)) (gName 7) (tSeq (tAsg (tLc (iTup K (tOp (rIx K) (tDGet (tVar 2) (tOp (rIx K) (tVar 5) (tC (.int 1)))) (tC (.int 3)))) (gName 10) (tTest (tOp (rIn K false) (tVar 10) (tOp (rIx K) (tDGet (tVar 2) (tOp (rIx K) (tOp (rIx K) (tVar 1) (tVar 7)) (tC (.int 1)))) (tC (.int 3))))) (tVar 10) [10]) (gName 8)) (tIfS (tOr (tTest (tOp (rEqD K) (tOp (rIx K) (tVar 5) (tC (.int 2))) (tOp (rIx K) (tOp (rIx K) (tVar 1) (tVar 7)) (tC (.int 2))))) (tTest (tOp (rNeD K) (tVar 8) (tLst tNil)))) (tDrop (tBM K "list" rAppend (tVar 6) (tCons (tVar 7) tNil))) tNext))) (tDrop (tBM K "list" rAppend (tVar 3) (tCons (tCB (rTupleA K) (tCons (tVar 6) tNil)) tNil)))))) (tRet (tVar 3)))))
def encCt (c : Cs) : D := .tuple [.str c.nm, encC c]
theorem enc_pr (cs : List Cs) : cs.map encCt = (cs.map prC).map prD2 := by rw [List.map_map]; rfl
theorem filt_any (a b : List Str) : (a.filter fun p => b.any fun q => q == p) ≠ [] ↔ (a.any fun p => b.any fun q => q == p) = true := by
  rw [Ne, List.filter_eq_nil_iff, List.any_eq_true]
  constructor
  · intro h
    exact Classical.byContradiction fun z => h fun x hx y => z ⟨x, hx, y⟩
  · rintro ⟨x, hx, y⟩ z
    exact z x hx y
theorem eqv_nilL (xs : List Str) : PyData.eqv (.list (xs.map PyData.str)) (.list []) = decide (xs = []) := by
  cases xs with
  | nil => simp [PyData.eqv, PyData.eqvAll]
  | cons x xs => simp [PyData.eqv, PyData.eqvAll]
theorem shaped_strsL {xs : List Str} (h : ∀ x ∈ xs, okS x) : SeqAt.shaped (.list (xs.map PyData.str)) = true := by
  unfold SeqAt.shaped
  rw [Bool.and_eq_true]
  refine ⟨by unfold PyData.canLay0; exact lay_strs h, decide_eq_true ?_⟩
  unfold PyData.depth
  rw [dep_strs]
  decide
end
end Go
namespace Go
open PySem PySem.Spec PyProof.Rows L2 SetMix ZipE
local macro_rules | `(tactic| walk_at "g") => `(tactic| first
  | ((with_reducible refine gd_var (d := ?dd) ?hv ?_); (case hv => exact rfl))
  | ((with_reducible refine gd_ixScr (ns := ?ns) ?hv ?_); (case hv => exact rfl))
  | ((with_reducible refine gd_ixCel (j := ?jj) ?hv ?_); (case hv => exact rfl))
  | ((with_reducible refine gd_lenScr (ns := ?ns) ?hv ?_); (case hv => exact rfl))
  | with_reducible first
    | refine gs_seq ?_ | refine gs_next ?_ | refine gs_ret ?_ | refine gs_asgD ?_ | refine gs_if ?_
    | refine gt_test ?_ | refine gt_B ?_ | refine gt_and ?_ | refine gt_or ?_ | refine gt_not ?_ | refine gt_yes ?_
    | refine gd_int ?_ | refine gd_str ?_ | refine gd_bl ?_ | refine gd_non ?_
    | refine gd_op ?_ | refine gd_tup ?_ | refine gd_lst ?_
    | refine gd_cb (r := rLenA _) ?_ | refine gd_cb (r := rTupleA _) ?_ | refine gd_cb (r := rAbsA) ?_ | refine gd_cb (r := rMax2A) ?_ | refine gd_cb (r := rMin2A) ?_ | refine gd_cb (r := rIntA) ?_ | refine gd_cb (r := rAny _) ?_ | refine gd_cb (r := rAll _) ?_ | refine gd_cb (r := rDictP _) ?_ | refine gd_cb (r := rMax _) ?_ | refine gd_cb (r := rMin _) ?_
    | refine gs_cons ?_ | refine gs_nil ?_ | refine gd_dget ?_
    | refine gd_and ?_ | refine gd_or ?_ | refine gd_not ?_
    | refine opd_addI ?_ | refine opd_sub ?_ | refine opd_lt ?_ | refine opd_le ?_ | refine opd_gt ?_ | refine opd_ge ?_
    | refine opd_lenL ?_ | refine opd_lenT ?_ | refine opd_tupleL ?_ | refine opd_tupleT ?_ | refine opd_max2 ?_ | refine opd_min2 ?_ | refine opd_abs ?_ | refine opd_intB ?_
    | refine Exists.intro _ (And.intro rfl ?_))
section
variable {K : PySem.W.Frag} {wd : PySem.World} {n : Nat} {ρ ts : List SV} {g : List Cell}
theorem rng_at {m k : Nat} {d : D} (h : (rngD 0 m)[k]? = some d) : d = .int (k : Int) ∧ k < m := by
  have lt := (List.getElem?_eq_some_iff.mp h).1
  rw [rngD_len] at lt
  rw [rngD_get lt] at h
  refine ⟨?_, lt⟩
  rw [← Option.some.inj h, Int.zero_add]
theorem filter_snoc (P : Nat → Bool) (k : Nat) : (List.range (k + 1)).filter P = (List.range k).filter P ++ (if P k = true then [k] else []) := by
  rw [List.range_succ, List.filter_append, List.filter_cons]
  rfl
theorem go_law_leans (ss : List SV) (g : List Cell) (post : D → List Cell → Prop) (h : R_law_leans ss g post) : GoS K g.length (t_law_leans K wd) (ss ++ List.replicate (11 - ss.length) .no) g (KF g.length post) := by
  obtain ⟨cs, pl, rfl, rfl, ok, okl, p⟩ := h
  unfold t_law_leans
  refine gs_seq (gs_asgD (gd_cb (r := rDictP K) (gs_cons (gd_mapT encC encCt mg_name (ij_name (by simp)) (gi_tup (gd_var rfl ⟨_, rfl, cs, rfl, by have := ok.lc; omega, fun i c hc => gg_name ?_, ?_⟩))))))
  · (repeat (walk_at "g"))
    refine opd_ixT (d := .str c.nm) rfl ?_
    (repeat (walk_at "g"))
    exact ⟨by show 2 ≤ 100000; decide, rfl, rfl⟩
  rw [enc_pr]
  refine gs_nil (opd_dict ?_)
  refine gs_seq (gs_asg (ge_lstC (gs_nil ⟨by decide, ?_⟩)))
  refine gs_seq (gs_for (gi_enum (gs_cons (gd_var rfl (gs_nil ⟨_, _, rfl, .inr rfl, ?_⟩)))))
  refine ⟨fun i ρ g => ∃ (x4 x5 x6 x7 x8 : SV), ρ = [.d (encCs cs), .d (encP pl), .d (dct (dictC cs)), .c 0, x4, x5, x6, x7, x8, .no, .no] ∧ g = [some (((List.range i).map (leanAt cs pl)).map encN)], ⟨.no, .no, .no, .no, .no, rfl, rfl⟩, fun i d ρ' g' hi ⟨x4, x5, x6, x7, x8, e1, e2⟩ _ => ?_, fun ρ' g' ⟨x4, x5, x6, x7, x8, e1, e2⟩ _ => ?_⟩
  · subst e1 e2
    obtain ⟨e, he, rfl⟩ := enum_get hi
    obtain ⟨r, hr, rfl⟩ := at_map he
    have li : i < pl.length := (List.getElem?_eq_some_iff.mp hr).1
    have er : pl.getD i default = r := by rw [List.getD_eq_getElem?_getD, hr]; rfl
    have mr : r ∈ pl := List.mem_of_getElem? hr
    have ecs : csAt cs pl i = getC cs r.nm := by unfold csAt; rw [er]
    have erm : rmAt pl i = r.rm := by unfold rmAt; rw [er]
    refine gg2 (gs_seq (gs_asg (ge_lstC (gs_nil ⟨by decide, ?_⟩))))
    refine gs_seq (gs_for (gi_rng1 (gs_cons (gd_var rfl (gs_nil ⟨_, rfl, by have := ok.lp; omega, by have := ok.lp; omega, ?_⟩)))))
    refine ⟨fun k ρ g => ∃ (x7 x8 : SV), ρ = [.d (encCs cs), .d (encP pl), .d (dct (dictC cs)), .c 0, .d (.int (i : Int)), .d (encR r), .c 1, x7, x8, .no, .no] ∧ g = [some (((List.range i).map (leanAt cs pl)).map encN), some (((List.range k).filter fun a => rmAt pl a == rmAt pl i || share (csAt cs pl a) (csAt cs pl i)).map encI)], ⟨x7, x8, rfl, rfl⟩, fun k d ρ' g' hi ⟨x7, x8, e1, e2⟩ _ => ?_, fun ρ' g' ⟨x7, x8, e1, e2⟩ _ => ?_⟩
    · subst e1 e2
      obtain ⟨rfl, lk⟩ := rng_at hi
      have lk2 : k < i := by omega
      have lkp : k < pl.length := by omega
      have mk : pl.getD k default ∈ pl := getD_mem lkp
      have ixk : atI (pl.map encR) (k : Int) = some (encR (pl.getD k default)) := ix_map encR lkp
      refine gg_name (gs_seq (gs_asgD (gd_filT PyData.str PyData.str (fun p => (csAt cs pl k).tm.any fun q => q == p) mg_name (ij_name (by simp)) (gi_tup ?_))))
      (repeat (walk_at "g"))
      refine opd_ixT (d := .str r.nm) rfl ⟨.inr r.nm, _, rfl, lk_dictC ok mr, ?_⟩
      (repeat (walk_at "g"))
      refine opd_ixT (d := .tuple ((getC cs r.nm).tm.map PyData.str)) rfl ⟨_, rfl, (getC cs r.nm).tm, rfl, by have := okl _ (ok.get mr).1; omega, fun j q hq => gg_name ?_, ?_⟩
      · (repeat (walk_at "g"))
        refine opd_ixT ixk ?_
        (repeat (walk_at "g"))
        refine opd_ixT (d := .str (pl.getD k default).nm) rfl ⟨.inr (pl.getD k default).nm, _, rfl, lk_dictC ok mk, ?_⟩
        (repeat (walk_at "g"))
        refine opd_ixT (d := .tuple ((getC cs (pl.getD k default).nm).tm.map PyData.str)) rfl (opd_inT rfl (flat_strs _) ⟨_, rfl, rfl, ?_, gd_var rfl ⟨rfl, rfl⟩⟩)
        rw [any_team]
        rfl
      · have okb : ∀ x ∈ (getC cs r.nm).tm.filter (fun p => (csAt cs pl k).tm.any fun q => q == p), okS x := fun x hx => ok.okt _ (ok.get mr).1 x (List.mem_filter.mp hx).1
        have shr : (decide ((getC cs r.nm).tm.filter (fun p => (csAt cs pl k).tm.any fun q => q == p) = [])) = !(share (csAt cs pl k) (csAt cs pl i)) := by
          rw [share_comm, ecs]
          unfold share
          cases z : (getC cs r.nm).tm.any fun p => (csAt cs pl k).tm.any fun q => q == p with
          | true => exact decide_eq_false ((filt_any _ _).mpr z)
          | false => exact decide_eq_true (Classical.byContradiction fun y => by rw [(filt_any _ _).mp y] at z; cases z)
        generalize hb : (getC cs r.nm).tm.filter (fun p => (csAt cs pl k).tm.any fun q => q == p) = both at okb shr
        have yes : (rmAt pl k == rmAt pl i || share (csAt cs pl k) (csAt cs pl i)) = true → GoS K 2 (tDrop (tBM K "list" rAppend (tVar 6) (tCons (tVar 7) tNil))) [.d (encCs cs), .d (encP pl), .d (dct (dictC cs)), .c 0, .d (.int (i : Int)), .d (encR r), .c 1, .d (.int (k : Int)), .d (.list (both.map PyData.str)), .no, .no] [some (((List.range i).map (leanAt cs pl)).map encN), some (((List.range k).filter fun a => rmAt pl a == rmAt pl i || share (csAt cs pl a) (csAt cs pl i)).map encI)] ⟨fun ρ3 g3 => ∃ (x7 x8 : SV), cutS 2 ρ3 = [.d (encCs cs), .d (encP pl), .d (dct (dictC cs)), .c 0, .d (.int (i : Int)), .d (encR r), .c 1, x7, x8, .no, .no] ∧ g3.take 2 = [some (((List.range i).map (leanAt cs pl)).map encN), some (((List.range (k + 1)).filter fun a => rmAt pl a == rmAt pl i || share (csAt cs pl a) (csAt cs pl i)).map encI)], fun _ _ => False, fun _ _ => False, fun _ _ => False⟩ := fun hy => by
          refine gs_app (ge_var rfl (fun z => nomatch z) ⟨1, _, rfl, rfl, gd_var rfl ⟨_, rfl, ?_, _, _, rfl, ?_⟩⟩)
          · rw [List.length_map]
            have := List.length_filter_le (fun a => rmAt pl a == rmAt pl i || share (csAt cs pl a) (csAt cs pl i)) (List.range k)
            rw [List.length_range] at this
            have := ok.lp
            omega
          · rw [filter_snoc, if_pos hy, List.map_append]
            rfl
        have no : ¬ (rmAt pl k == rmAt pl i || share (csAt cs pl k) (csAt cs pl i)) = true → (List.range (k + 1)).filter (fun a => rmAt pl a == rmAt pl i || share (csAt cs pl a) (csAt cs pl i)) = (List.range k).filter fun a => rmAt pl a == rmAt pl i || share (csAt cs pl a) (csAt cs pl i) := fun hn => by
          rw [filter_snoc, if_neg hn, List.append_nil]
        have weak : ∀ {t : TS} {ρ : List SV} {g : List Cell} {κ κ' : Ks}, GoS K 2 t ρ g κ → (∀ ρ g, κ.nx ρ g → κ'.nx ρ g) → (∀ s g, ¬ κ.rt s g) → (∀ s g, ¬ κ.bk s g) → (∀ s g, ¬ κ.ct s g) → GoS K 2 t ρ g κ' := fun hg a b c d I0 H0 bs σ H E hn w m => hg I0 H0 bs σ H E hn w ⟨fun σ H ρ g w p => m.nx σ H ρ g w (a ρ g p), fun v σ H ρ s g w p => (b s g p).elim, fun σ H ρ g w p => (c ρ g p).elim, fun σ H ρ g w p => (d ρ g p).elim⟩
        refine gs_if (gt_or (gt_test (gd_op ?_)))
        (repeat (walk_at "g"))
        refine opd_ixT (d := .int r.rm) rfl ?_
        (repeat (walk_at "g"))
        refine opd_ixT ixk ?_
        (repeat (walk_at "g"))
        refine opd_ixT (d := .int (rmAt pl k)) rfl (opd_eq rfl rfl ⟨_, rfl, fun he => ?_, fun he => ⟨fun _ => ?_, fun z => nomatch z⟩⟩)
        · have ne1 : (rmAt pl k == rmAt pl i) = false := by
            have : (r.rm == rmAt pl k) = false := he
            rw [erm, Bool.eq_false_iff] at *
            intro z
            apply this
            simpa using (beq_iff_eq.mp z).symm
          (repeat (walk_at "g"))
          refine ⟨by decide, opd_ne (shaped_strsL okb) rfl ?_⟩
          rw [eqv_nilL, shr, Bool.not_not]
          refine ⟨_, rfl, fun hs => weak (yes (by rw [hs, Bool.or_true])) (fun ρ g h => h) (fun _ _ h => h) (fun _ _ h => h) (fun _ _ h => h), fun hs => gs_next ?_⟩
          refine ⟨_, _, rfl, ?_⟩
          rw [no (by rw [ne1, hs]; decide)]
          rfl
        · have e1 : (rmAt pl k == rmAt pl i) = true := by
            have : (r.rm == rmAt pl k) = true := he
            rw [erm]
            simpa using (beq_iff_eq.mp this).symm
          exact weak (yes (by rw [e1, Bool.true_or])) (fun ρ g h => h) (fun _ _ h => h) (fun _ _ h => h) (fun _ _ h => h)
    · subst e1 e2
      rw [rngD_len]
      refine gs_app (ge_var rfl (fun z => nomatch z) ⟨0, _, rfl, rfl, gd_cb (r := rTupleA K) (gs_cons (gd_give (ge_var rfl (fun z => nomatch z) ⟨1, _, rfl, Nat.le_refl 1, rfl, gs_nil (opd_tupleL ⟨_, rfl, ?_, ?_⟩)⟩)))⟩)
      · rw [List.length_map, List.length_map, List.length_range]; have := ok.lp; omega
      · refine ⟨_, _, _, _, _, rfl, ?_⟩
        rw [range_snoc, List.map_append]
        rfl
  · subst e1 e2
    rw [enum_len, List.length_map]
    refine gs_ret (gd_give (ge_var rfl (fun z => nomatch z) ⟨0, _, rfl, Nat.zero_le _, rfl, _, rfl, ?_⟩))
    exact p
end
end Go
namespace Go
open PySem PySem.Spec PyProof.Rows L2 SetMix ZipE
local macro_rules | `(tactic| walk_at "g") => `(tactic| first
  | ((with_reducible refine gd_var (d := ?dd) ?hv ?_); (case hv => exact rfl))
  | ((with_reducible refine gd_ixScr (ns := ?ns) ?hv ?_); (case hv => exact rfl))
  | ((with_reducible refine gd_ixCel (j := ?jj) ?hv ?_); (case hv => exact rfl))
  | ((with_reducible refine gd_lenScr (ns := ?ns) ?hv ?_); (case hv => exact rfl))
  | with_reducible first
    | refine gs_seq ?_ | refine gs_next ?_ | refine gs_ret ?_ | refine gs_asgD ?_ | refine gs_if ?_
    | refine gt_test ?_ | refine gt_B ?_ | refine gt_and ?_ | refine gt_or ?_ | refine gt_not ?_ | refine gt_yes ?_
    | refine gd_int ?_ | refine gd_str ?_ | refine gd_bl ?_ | refine gd_non ?_
    | refine gd_op ?_ | refine gd_tup ?_ | refine gd_lst ?_
    | refine gd_cb (r := rLenA _) ?_ | refine gd_cb (r := rTupleA _) ?_ | refine gd_cb (r := rAbsA) ?_ | refine gd_cb (r := rMax2A) ?_ | refine gd_cb (r := rMin2A) ?_ | refine gd_cb (r := rIntA) ?_ | refine gd_cb (r := rAny _) ?_ | refine gd_cb (r := rAll _) ?_ | refine gd_cb (r := rDictP _) ?_ | refine gd_cb (r := rMax _) ?_ | refine gd_cb (r := rMin _) ?_
    | refine gs_cons ?_ | refine gs_nil ?_ | refine gd_dget ?_
    | refine gd_and ?_ | refine gd_or ?_ | refine gd_not ?_
    | refine opd_addI ?_ | refine opd_sub ?_ | refine opd_lt ?_ | refine opd_le ?_ | refine opd_gt ?_ | refine opd_ge ?_
    | refine opd_lenL ?_ | refine opd_lenT ?_ | refine opd_tupleL ?_ | refine opd_tupleT ?_ | refine opd_max2 ?_ | refine opd_min2 ?_ | refine opd_abs ?_ | refine opd_intB ?_
    | refine Exists.intro _ (And.intro rfl ?_))
/-! ### days -/
abbrev T3 := Str × Int × Int
def encT (t : T3) : D := .tuple [.str t.1, .int t.2.1, .int t.2.2]
def bgn (st : Int) (es : List Int) : Int := es.foldl max st
def endsOf (t : List T3) (ns : List Nat) : List Int := ns.map fun a => (t.getD a default).2.2
def tdM (cs : List Cs) (pl : List Rw) (mins : List Int) : Nat → List T3
  | 0 => []
  | k + 1 => tdM cs pl mins k ++ [((pl.getD k default).nm, bgn (pl.getD k default).st (endsOf (tdM cs pl mins k) (leanAt cs pl k)), bgn (pl.getD k default).st (endsOf (tdM cs pl mins k) (leanAt cs pl k)) + mins.getD k 0)]
def tdAll (cs : List Cs) (pl : List Rw) (mins : List Int) : List T3 := tdM cs pl mins pl.length
theorem tdM_len (cs : List Cs) (pl : List Rw) (mins : List Int) : ∀ k, (tdM cs pl mins k).length = k
  | 0 => rfl
  | k + 1 => by
    unfold tdM
    rw [List.length_append, tdM_len cs pl mins k]
    rfl
theorem leanAt_lt {cs : List Cs} {pl : List Rw} {k a : Nat} (h : a ∈ leanAt cs pl k) : a < k := List.mem_range.mp (List.mem_filter.mp h).1
theorem bgn_max {m st : Int} : ∀ {es : List Int}, m ∈ st :: es → (∀ y ∈ st :: es, y ≤ m) → m = bgn st es := by
  intro es
  have le : ∀ (es : List Int) (st : Int), st ≤ bgn st es ∧ (∀ y ∈ es, y ≤ bgn st es) ∧ bgn st es ∈ st :: es := by
    intro es
    induction es with
    | nil => intro st; exact ⟨Int.le_refl _, (fun _ z => nomatch z), List.mem_cons_self⟩
    | cons x es ih =>
      intro st
      obtain ⟨a, b, c⟩ := ih (max st x)
      have e : bgn st (x :: es) = bgn (max st x) es := rfl
      rw [e]
      refine ⟨by omega, fun y hy => ?_, ?_⟩
      · rcases List.mem_cons.mp hy with z | z
        · rw [z]; omega
        · exact b y z
      · rcases List.mem_cons.mp c with z | z
        · rw [z]
          by_cases h : st ≤ x
          · rw [Int.max_eq_right h]; exact List.mem_cons_of_mem _ List.mem_cons_self
          · rw [Int.max_eq_left (by omega)]; exact List.mem_cons_self
        · exact List.mem_cons_of_mem _ (List.mem_cons_of_mem _ z)
  intro hm hy
  obtain ⟨a, b, c⟩ := le es st
  have h1 := hy _ c
  have h2 : m ≤ bgn st es := by
    rcases List.mem_cons.mp hm with z | z
    · rw [z]; exact a
    · exact b m z
  omega
def Rtold_day : RSpec := fun ss g post => ∃ cs pl mins, ss = [.d (encCs cs), .d (encP pl), .d (.tuple (mins.map PyData.int))] ∧ g = [] ∧ OkP cs pl ∧ (∀ c ∈ cs, c.tm.length ≤ 1000) ∧ mins.length = pl.length ∧ post (.list ((tdAll cs pl mins).map encT)) []
def R_law_told_day : RSpec := Rtold_day
section
variable {K : PySem.W.Frag} {wd : PySem.World} {n : Nat} {ρ ts : List SV} {g : List Cell}
def ttold_day (K : PySem.W.Frag) (wd : PySem.World) : TS := (tSeq (tAsg (tLst tNil) (gName 3)) (tSeq (tAsg (tCall (spOf K Rleans) [] E0 (tCons (tVar 0) (tCons (tVar 1) tNil))) (gName 4)) (tSeq (tFor (iZip3 K (tCons (tVar 1) (tCons (tVar 4) (tCons (tVar 2) tNil)))) (gTup K 3 (gCons (gTup K 3 (gCons (gName 8) (gCons (gName 9) (gCons (gName 10) gNil)))) (gCons (gName 5) (gCons (gName 6) gNil)))) (tSeq (tAsg (tCB (rMax K) (tCons (tOp (rAddA K) (tLst (tCons (tVar 8) tNil)) (tLc (iTup K (tVar 5)) (gName 11) tYes (tOp (rIx K) (tOp (rIx K) (tVar 3) (tVar 11)) (tC (.int 2))) [11])) tNil)) (gName 7)) (tDrop (tBM K "list" rAppend (tVar 3) (tCons (tTup (tCons (tVar 9) (tCons (tVar 7) (tCons (tOp (rAddA K) (tVar 7) (tVar 6)) tNil)))) tNil))))) (tRet (tVar 3)))))
theorem zip3_get {as bs cs : List D} {i : Nat} {d : D} (h : (zipD3 as bs cs)[i]? = some d) : ∃ a b c, as[i]? = some a ∧ bs[i]? = some b ∧ cs[i]? = some c ∧ d = .tuple [a, b, c] := by
  unfold zipD3 at h
  rw [List.getElem?_map] at h
  cases z : (as.zip (bs.zip cs))[i]? with
  | none => rw [z] at h; cases h
  | some p =>
    rw [z] at h
    obtain ⟨h1, h2⟩ := List.getElem?_zip_eq_some.mp z
    obtain ⟨h3, h4⟩ := List.getElem?_zip_eq_some.mp h2
    exact ⟨_, _, _, h1, h3, h4, (Option.some.inj h).symm⟩
theorem zip3_len (as bs cs : List D) : (zipD3 as bs cs).length = min as.length (min bs.length cs.length) := by unfold zipD3; simp
theorem at_end {t : List T3} {a : Nat} (h : a < t.length) : atI (t.map encT) (a : Int) = some (encT (t.getD a default)) := ix_map encT h
def encE (t : List T3) (a : Nat) : D := .int (t.getD a default).2.2
theorem go_told_day (ss : List SV) (g : List Cell) (post : D → List Cell → Prop) (h : Rtold_day ss g post) : GoS K g.length (ttold_day K wd) (ss ++ List.replicate (12 - ss.length) .no) g (KF g.length post) := by
  obtain ⟨cs, pl, mins, rfl, rfl, ok, okl, hm, p⟩ := h
  unfold ttold_day
  refine gs_seq (gs_asg (ge_lstC (gs_nil ⟨by decide, ?_⟩)))
  refine gs_seq (gs_asgD (gd_call ?_))
  (repeat (walk_at "g"))
  refine ⟨cs, pl, rfl, rfl, ok, okl, ?_⟩
  refine gs_seq (gs_for (gi_zip3 ?_))
  (repeat (walk_at "g"))
  refine ⟨_, _, _, _, _, _, rfl, .inr rfl, .inl rfl, .inr rfl, ?_⟩
  refine ⟨fun i ρ g => ∃ (x5 x6 x7 x8 x9 x10 : SV), ρ = [.d (encCs cs), .d (encP pl), .d (.tuple (mins.map PyData.int)), .c 0, .d (.list ((leansM cs pl).map encN)), x5, x6, x7, x8, x9, x10, .no] ∧ g = [some ((tdM cs pl mins i).map encT)], ⟨.no, .no, .no, .no, .no, .no, rfl, rfl⟩, fun i d ρ' g' hi ⟨x5, x6, x7, x8, x9, x10, e1, e2⟩ _ => ?_, fun ρ' g' ⟨x5, x6, x7, x8, x9, x10, e1, e2⟩ _ => ?_⟩
  · subst e1 e2
    obtain ⟨da, db, dc, ha, hb, hc, rfl⟩ := zip3_get hi
    obtain ⟨r, hr, rfl⟩ := at_map ha
    obtain ⟨ns, hns, rfl⟩ := at_map hb
    obtain ⟨m, hmi, rfl⟩ := at_map hc
    have li : i < pl.length := (List.getElem?_eq_some_iff.mp hr).1
    have er : pl.getD i default = r := by rw [List.getD_eq_getElem?_getD, hr]; rfl
    have em : mins.getD i 0 = m := by rw [List.getD_eq_getElem?_getD, hmi]; rfl
    have en : ns = leanAt cs pl i := by
      unfold leansM at hns
      rw [List.getElem?_map, List.getElem?_range li] at hns
      exact (Option.some.inj hns).symm
    subst en
    refine gg_tup rfl (ggs_cons (gg3 (ggs_cons (gg_name (ggs_cons (gg_name (ggs_nil ?_)))))))
    refine gs_seq (gs_asgD (gd_cb (r := rMax K) (gs_cons (gd_op (gd_lst (gs_cons (gd_var rfl (gs_nil ⟨by show 1 ≤ 100000; decide, ?_⟩))))))))
    refine gd_mapT encI (encE (tdM cs pl mins i)) mg_name (ij_name (by simp)) (gi_tup (gd_var rfl ⟨_, rfl, leanAt cs pl i, rfl, ?_, fun j a ha => gg_name ?_, ?_⟩))
    · have := List.length_filter_le (fun a => rmAt pl a == rmAt pl i || share (csAt cs pl a) (csAt cs pl i)) (List.range i)
      rw [List.length_range] at this
      have h8 := ok.lp
      unfold leanAt
      omega
    · have lt : a < i := leanAt_lt (List.mem_of_getElem? ha)
      (repeat (walk_at "g"))
      refine ⟨_, _, _, rfl, rfl, at_end (by rw [tdM_len]; exact lt), ?_⟩
      (repeat (walk_at "g"))
      exact opd_ixT (d := .int _) rfl ⟨rfl, rfl⟩
    · have ee : (leanAt cs pl i).map (encE (tdM cs pl mins i)) = (endsOf (tdM cs pl mins i) (leanAt cs pl i)).map PyData.int := by
        unfold endsOf
        rw [List.map_map]
        rfl
      rw [ee]
      have ln : (endsOf (tdM cs pl mins i) (leanAt cs pl i)).length ≤ 8 := by
        unfold endsOf leanAt
        rw [List.length_map]
        have := List.length_filter_le (fun a => rmAt pl a == rmAt pl i || share (csAt cs pl a) (csAt cs pl i)) (List.range i)
        rw [List.length_range] at this
        have h8 := ok.lp
        omega
      refine opd_addL (by rw [List.length_map]; show 1 + _ ≤ 100000; omega) (gs_nil (opd_maxL (ns := r.st :: endsOf (tdM cs pl mins i) (leanAt cs pl i)) (by rw [List.length_cons]; omega) fun b hb1 hb2 => ?_))
      have eb := bgn_max hb1 hb2
      refine gs_app (ge_var rfl (fun z => nomatch z) ⟨0, _, rfl, rfl, ?_⟩)
      (repeat (walk_at "g"))
      refine ⟨by show 3 ≤ 100000; decide, _, rfl, by rw [List.length_map, tdM_len]; have := ok.lp; omega, _, _, _, _, _, _, rfl, ?_⟩
      show [some ((tdM cs pl mins i).map encT ++ [PyData.tuple [.str r.nm, .int b, .int (b + m)]])] = [some ((tdM cs pl mins (i + 1)).map encT)]
      rw [show tdM cs pl mins (i + 1) = tdM cs pl mins i ++ [(r.nm, b, b + m)] by rw [eb, ← em, ← er]; rfl, List.map_append]
      rfl
  · subst e1 e2
    have lz : (zipD3 (pl.map encR) ((leansM cs pl).map encN) (mins.map PyData.int)).length = pl.length := by
      rw [zip3_len, List.length_map, List.length_map, List.length_map]
      unfold leansM
      rw [List.length_map, List.length_range, hm]
      omega
    rw [lz]
    refine gs_ret (gd_give (ge_var rfl (fun z => nomatch z) ⟨0, _, rfl, Nat.zero_le _, rfl, _, rfl, ?_⟩))
    exact p
def t_law_told_day (K : PySem.W.Frag) (wd : PySem.World) : TS := (tSeq (tAsg (tLst tNil) (gName 3)) (tSeq (tAsg (tCall (spOf K R_law_leans) [] E0 (tCons (tVar 0) (tCons (tVar 1) tNil))) (gName 4)) (tSeq (tFor (iEnum1 K (tCons (tVar 1) tNil)) (gTup K 2 (gCons (gName 5) (gCons (gName 6) gNil))) (tSeq (tAsg (tOp (rIx K) (tVar 6) (tC (.int 0))) (gName 7)) (tSeq (tFor (iTup K (tOp (rIx K) (tVar 4) (tVar 5))) (gName 8) (tAsg (tCB rMax2A (tCons (tVar 7) (tCons (tOp (rIx K) (tOp (rIx K) (tVar 3) (tVar 8)) (tC (.int 2))) tNil))) (gName 7))) (tDrop (tBM K "list" rAppend (tVar 3) (tCons (tTup (tCons (tOp (rIx K) (tVar 6) (tC (.int 1))) (tCons (tVar 7) (tCons (tOp (rAddA K) (tVar 7) (tOp (rIx K) (tVar 2) (tVar 5))) tNil)))) tNil)))))) (tRet (tVar 3)))))
theorem max_if (i j : Int) : (if j > i then j else i) = max i j := by
  split <;> omega
theorem bgn_snoc (st : Int) (es : List Int) (x : Int) : bgn st (es ++ [x]) = max (bgn st es) x := by
  unfold bgn
  rw [List.foldl_append]
  rfl
theorem go_law_told_day (ss : List SV) (g : List Cell) (post : D → List Cell → Prop) (h : R_law_told_day ss g post) : GoS K g.length (t_law_told_day K wd) (ss ++ List.replicate (9 - ss.length) .no) g (KF g.length post) := by
  obtain ⟨cs, pl, mins, rfl, rfl, ok, okl, hm, p⟩ := h
  unfold t_law_told_day
  refine gs_seq (gs_asg (ge_lstC (gs_nil ⟨by decide, ?_⟩)))
  refine gs_seq (gs_asgD (gd_call ?_))
  (repeat (walk_at "g"))
  refine ⟨cs, pl, rfl, rfl, ok, okl, ?_⟩
  refine gs_seq (gs_for (gi_enum (gs_cons (gd_var rfl (gs_nil ⟨_, _, rfl, .inr rfl, ?_⟩)))))
  refine ⟨fun i ρ g => ∃ (x5 x6 x7 x8 : SV), ρ = [.d (encCs cs), .d (encP pl), .d (.tuple (mins.map PyData.int)), .c 0, .d (.list ((leansM cs pl).map encN)), x5, x6, x7, x8] ∧ g = [some ((tdM cs pl mins i).map encT)], ⟨.no, .no, .no, .no, rfl, rfl⟩, fun i d ρ' g' hi ⟨x5, x6, x7, x8, e1, e2⟩ _ => ?_, fun ρ' g' ⟨x5, x6, x7, x8, e1, e2⟩ _ => ?_⟩
  · subst e1 e2
    obtain ⟨e, he, rfl⟩ := enum_get hi
    obtain ⟨r, hr, rfl⟩ := at_map he
    have li : i < pl.length := (List.getElem?_eq_some_iff.mp hr).1
    have er : pl.getD i default = r := by rw [List.getD_eq_getElem?_getD, hr]; rfl
    have ll : i < (leansM cs pl).length := by unfold leansM; rw [List.length_map, List.length_range]; exact li
    have ixl : atI ((leansM cs pl).map encN) (i : Int) = some (encN (leanAt cs pl i)) := by
      refine atI_nat ?_
      unfold leansM
      rw [List.getElem?_map, List.getElem?_map, List.getElem?_range li]
      rfl
    refine gg2 (gs_seq (gs_asgD (gd_op (gd_var rfl (gd_int (opd_ixT (d := .int r.st) rfl ?_))))))
    refine gs_seq (gs_for (gi_tup (gd_op (gd_var rfl (gd_var rfl (opd_ixL ixl ⟨_, rfl, ?_⟩))))))
    refine ⟨fun k ρ g => ∃ (x8 : SV), ρ = [.d (encCs cs), .d (encP pl), .d (.tuple (mins.map PyData.int)), .c 0, .d (.list ((leansM cs pl).map encN)), .d (.int (i : Int)), .d (encR r), .d (.int (bgn r.st (endsOf (tdM cs pl mins i) ((leanAt cs pl i).take k)))), x8] ∧ g = [some ((tdM cs pl mins i).map encT)], ⟨x8, rfl, rfl⟩, fun k d ρ' g' hi ⟨x8, e1, e2⟩ _ => ?_, fun ρ' g' ⟨x8, e1, e2⟩ _ => ?_⟩
    · subst e1 e2
      obtain ⟨a, ha, rfl⟩ := at_map hi
      have lt : a < i := leanAt_lt (List.mem_of_getElem? ha)
      refine gg_name (gs_asgD ?_)
      (repeat (walk_at "g"))
      refine ⟨_, _, _, rfl, rfl, at_end (by rw [tdM_len]; exact lt), ?_⟩
      (repeat (walk_at "g"))
      refine opd_ixT (d := .int ((tdM cs pl mins i).getD a default).2.2) rfl ?_
      (repeat (walk_at "g"))
      rw [max_if, ← bgn_snoc]
      refine ⟨.d (encI a), ?_, rfl⟩
      have : endsOf (tdM cs pl mins i) ((leanAt cs pl i).take (k + 1)) = endsOf (tdM cs pl mins i) ((leanAt cs pl i).take k) ++ [((tdM cs pl mins i).getD a default).2.2] := by
        unfold endsOf
        rw [List.take_add_one, ha, List.map_append]
        rfl
      rw [this]
      rfl
    · subst e1 e2
      rw [List.length_map, List.take_length]
      have lmi : i < mins.length := by omega
      have ixm : atI (mins.map PyData.int) (i : Int) = some (.int (mins.getD i 0)) := by
        refine atI_nat ?_
        rw [List.getElem?_map, List.getD_eq_getElem?_getD, List.getElem?_eq_getElem lmi]
        rfl
      refine gs_app (ge_var rfl (fun z => nomatch z) ⟨0, _, rfl, rfl, ?_⟩)
      (repeat (walk_at "g"))
      refine opd_ixT (d := .str r.nm) rfl ?_
      (repeat (walk_at "g"))
      refine opd_ixT ixm ?_
      (repeat (walk_at "g"))
      refine ⟨by show 3 ≤ 100000; decide, _, rfl, by rw [List.length_map, tdM_len]; have := ok.lp; omega, _, _, _, _, rfl, ?_⟩
      show [some ((tdM cs pl mins i).map encT ++ [_])] = [some ((tdM cs pl mins (i + 1)).map encT)]
      rw [show tdM cs pl mins (i + 1) = tdM cs pl mins i ++ [(r.nm, bgn r.st (endsOf (tdM cs pl mins i) (leanAt cs pl i)), bgn r.st (endsOf (tdM cs pl mins i) (leanAt cs pl i)) + mins.getD i 0)] by rw [← er]; rfl, List.map_append]
      rfl
  · subst e1 e2
    rw [enum_len, List.length_map]
    refine gs_ret (gd_give (ge_var rfl (fun z => nomatch z) ⟨0, _, rfl, Nat.zero_le _, rfl, _, rfl, ?_⟩))
    exact p
end
end Go
namespace Go
open PySem PySem.Spec PyProof.Rows L2 SetMix ZipE
/-! ### the latest times, by rows and by all lots -/
theorem bgn_all : ∀ (es : List Int) (st : Int), st ≤ bgn st es ∧ (∀ y ∈ es, y ≤ bgn st es) ∧ bgn st es ∈ st :: es := by
  intro es
  induction es with
  | nil => intro st; exact ⟨Int.le_refl _, (fun _ z => nomatch z), List.mem_cons_self⟩
  | cons x es ih =>
    intro st
    obtain ⟨a, b, c⟩ := ih (max st x)
    have e : bgn st (x :: es) = bgn (max st x) es := rfl
    rw [e]
    refine ⟨by omega, fun y hy => ?_, ?_⟩
    · rcases List.mem_cons.mp hy with z | z
      · rw [z]; omega
      · exact b y z
    · rcases List.mem_cons.mp c with z | z
      · rw [z]
        by_cases h : st ≤ x
        · rw [Int.max_eq_right h]; exact List.mem_cons_of_mem _ List.mem_cons_self
        · rw [Int.max_eq_left (by omega)]; exact List.mem_cons_self
      · exact List.mem_cons_of_mem _ (List.mem_cons_of_mem _ z)
theorem bgn_le {st x : Int} {es : List Int} (h : st ≤ x) (h2 : ∀ y ∈ es, y ≤ x) : bgn st es ≤ x := by
  rcases List.mem_cons.mp (bgn_all es st).2.2 with z | z
  · rw [z]; exact h
  · exact h2 _ z
def stAt (pl : List Rw) (k : Nat) : Int := (pl.getD k default).st
def nmAt (pl : List Rw) (k : Nat) : Str := (pl.getD k default).nm
/-! a day by its minutes -/
def bdM (cs : List Cs) (pl : List Rw) (mins : List Int) (k : Nat) : Int := bgn (stAt pl k) (endsOf (tdM cs pl mins k) (leanAt cs pl k))
theorem tdM_at (cs : List Cs) (pl : List Rw) (mins : List Int) : ∀ (k p : Nat), p < k → (tdM cs pl mins k).getD p default = (nmAt pl p, bdM cs pl mins p, bdM cs pl mins p + mins.getD p 0)
  | 0, p, h => absurd h (by omega)
  | k + 1, p, h => by
    unfold tdM
    rw [List.getD_eq_getElem?_getD]
    by_cases e : p < k
    · rw [List.getElem?_append_left (by rw [tdM_len]; exact e), ← List.getD_eq_getElem?_getD]
      exact tdM_at cs pl mins k p e
    · have e2 : p = k := by omega
      subst e2
      rw [List.getElem?_append_right (by rw [tdM_len]; exact Nat.le_refl _), tdM_len, Nat.sub_self]
      rfl
theorem bdM_eq (cs : List Cs) (pl : List Rw) (mins : List Int) (k : Nat) : bdM cs pl mins k = bgn (stAt pl k) ((leanAt cs pl k).map fun p => bdM cs pl mins p + mins.getD p 0) := by
  unfold bdM endsOf
  congr 1
  refine List.map_congr_left fun p hp => ?_
  rw [tdM_at cs pl mins k p (leanAt_lt hp)]
  rfl
theorem bdM_local (cs : List Cs) (pl : List Rw) (m1 m2 : List Int) : ∀ k : Nat, (∀ q, q < k → m1.getD q 0 = m2.getD q 0) → bdM cs pl m1 k = bdM cs pl m2 k := by
  intro k
  induction k using Nat.strongRecOn with
  | _ k ih =>
    intro h
    rw [bdM_eq, bdM_eq]
    congr 1
    refine List.map_congr_left fun p hp => ?_
    have lt := leanAt_lt hp
    rw [ih p lt fun q hq => h q (by omega), h p lt]
theorem tdAll_eq (cs : List Cs) (pl : List Rw) (mins : List Int) : tdAll cs pl mins = (List.range pl.length).map fun k => (nmAt pl k, bdM cs pl mins k, bdM cs pl mins k + mins.getD k 0) := by
  refine List.ext_getElem? fun i => ?_
  rw [List.getElem?_map]
  by_cases h : i < pl.length
  · rw [List.getElem?_range h]
    have := tdM_at cs pl mins pl.length i h
    unfold tdAll
    rw [List.getD_eq_getElem?_getD] at this
    rw [List.getElem?_eq_getElem (by rw [tdM_len]; exact h)] at this ⊢
    exact congrArg some this
  · rw [List.getElem?_eq_none (by unfold tdAll; rw [tdM_len]; omega), List.getElem?_eq_none (by rw [List.length_range]; omega)]
    rfl
/-! the rows of the latest begins -/
def leM (c : Cs) (bs : List Int) (k : Nat) : Int := if 0 < k then max (bs.getD k 0 + c.us) (bs.getD (k - 1) 0 + c.lo) else bs.getD k 0 + c.us
def rowM (cs : List Cs) (pl : List Rw) (bs : List (List Int)) (k : Nat) (c : Nat) : Int := bgn (stAt pl k) ((leanAt cs pl k).map fun p => leM (csAt cs pl p) (bs.getD p []) c)
def lbM (cs : List Cs) (pl : List Rw) (m : Nat) : Nat → List (List Int)
  | 0 => []
  | k + 1 => lbM cs pl m k ++ [(List.range (m + 1)).map (rowM cs pl (lbM cs pl m k) k)]
theorem lbM_len (cs : List Cs) (pl : List Rw) (m : Nat) : ∀ k, (lbM cs pl m k).length = k
  | 0 => rfl
  | k + 1 => by
    unfold lbM
    rw [List.length_append, lbM_len cs pl m k]
    rfl
def rwM (cs : List Cs) (pl : List Rw) (m k : Nat) : List Int := (List.range (m + 1)).map (rowM cs pl (lbM cs pl m k) k)
theorem lbM_at (cs : List Cs) (pl : List Rw) (m : Nat) : ∀ (k p : Nat), p < k → (lbM cs pl m k).getD p [] = rwM cs pl m p
  | 0, p, h => absurd h (by omega)
  | k + 1, p, h => by
    unfold lbM
    rw [List.getD_eq_getElem?_getD]
    by_cases e : p < k
    · rw [List.getElem?_append_left (by rw [lbM_len]; exact e), ← List.getD_eq_getElem?_getD]
      exact lbM_at cs pl m k p e
    · have e2 : p = k := by omega
      subst e2
      rw [List.getElem?_append_right (by rw [lbM_len]; exact Nat.le_refl _), lbM_len, Nat.sub_self]
      rfl
def lbAll (cs : List Cs) (pl : List Rw) (m : Nat) : List (List Int) := lbM cs pl m pl.length
theorem lbAll_eq (cs : List Cs) (pl : List Rw) (m : Nat) : lbAll cs pl m = (List.range pl.length).map (rwM cs pl m) := by
  refine List.ext_getElem? fun i => ?_
  rw [List.getElem?_map]
  by_cases h : i < pl.length
  · rw [List.getElem?_range h]
    have := lbM_at cs pl m pl.length i h
    unfold lbAll
    rw [List.getD_eq_getElem?_getD] at this
    rw [List.getElem?_eq_getElem (by rw [lbM_len]; exact h)] at this ⊢
    exact congrArg some this
  · rw [List.getElem?_eq_none (by unfold lbAll; rw [lbM_len]; omega), List.getElem?_eq_none (by rw [List.length_range]; omega)]
    rfl
/-- the latest begin, the latest end within c overruns -/
def lbV (cs : List Cs) (pl : List Rw) (m k c : Nat) : Int := (rwM cs pl m k).getD c 0
def leV (cs : List Cs) (pl : List Rw) (m k c : Nat) : Int := leM (csAt cs pl k) (rwM cs pl m k) c
theorem lbV_eq (cs : List Cs) (pl : List Rw) {m c : Nat} (k : Nat) (hc : c ≤ m) : lbV cs pl m k c = bgn (stAt pl k) ((leanAt cs pl k).map fun p => leV cs pl m p c) := by
  unfold lbV rwM
  rw [List.getD_eq_getElem?_getD, List.getElem?_map, List.getElem?_range (by omega)]
  show rowM cs pl (lbM cs pl m k) k c = _
  unfold rowM
  congr 1
  refine List.map_congr_left fun p hp => ?_
  rw [lbM_at cs pl m k p (leanAt_lt hp)]
  rfl
theorem leV_us (cs : List Cs) (pl : List Rw) (m k c : Nat) : lbV cs pl m k c + (csAt cs pl k).us ≤ leV cs pl m k c := by
  unfold leV leM lbV
  split <;> omega
theorem leV_lo (cs : List Cs) (pl : List Rw) (m k c : Nat) (h : 0 < c) : lbV cs pl m k (c - 1) + (csAt cs pl k).lo ≤ leV cs pl m k c := by
  unfold leV leM lbV
  rw [if_pos h]
  omega
theorem leV_or (cs : List Cs) (pl : List Rw) (m k c : Nat) : leV cs pl m k c = lbV cs pl m k c + (csAt cs pl k).us ∨ (0 < c ∧ leV cs pl m k c = lbV cs pl m k (c - 1) + (csAt cs pl k).lo) := by
  unfold leV leM lbV
  split
  · omega
  · exact .inl rfl
/-! lots -/
def lotsM (most : Nat) : Nat → List (List Nat)
  | 0 => [[]]
  | k + 1 => lotsM most k ++ ((lotsM most k).filter fun l => decide (l.length < most)).map fun l => l ++ [k]
def minAt (cs : List Cs) (pl : List Rw) (S : List Nat) (k : Nat) : Int := if k ∈ S then (csAt cs pl k).lo else (csAt cs pl k).us
def minsM (cs : List Cs) (pl : List Rw) (S : List Nat) : List Int := (List.range pl.length).map (minAt cs pl S)
theorem minsM_at (cs : List Cs) (pl : List Rw) (S : List Nat) {k : Nat} (h : k < pl.length) : (minsM cs pl S).getD k 0 = minAt cs pl S k := by
  unfold minsM
  rw [List.getD_eq_getElem?_getD, List.getElem?_map, List.getElem?_range h]
  rfl
theorem lots_mono (most : Nat) : ∀ {k j : Nat}, k ≤ j → ∀ S ∈ lotsM most k, S ∈ lotsM most j := by
  intro k j h
  induction h with
  | refl => exact fun S z => z
  | step _ ih => exact fun S z => List.mem_append_left _ (ih S z)
theorem lots_nil (most : Nat) (k : Nat) : [] ∈ lotsM most k := lots_mono most (Nat.zero_le k) [] List.mem_cons_self
theorem lots_ok (most : Nat) : ∀ (k : Nat) (S : List Nat), S ∈ lotsM most k → S.length ≤ most ∧ ∀ x ∈ S, x < k
  | 0, S, h => by
    have : S = [] := by simpa [lotsM] using h
    subst this
    exact ⟨Nat.zero_le _, (fun _ z => nomatch z)⟩
  | k + 1, S, h => by
    unfold lotsM at h
    rcases List.mem_append.mp h with z | z
    · obtain ⟨a, b⟩ := lots_ok most k S z
      exact ⟨a, fun x hx => by have := b x hx; omega⟩
    · obtain ⟨l, hl, e⟩ := List.mem_map.mp z
      obtain ⟨h1, h2⟩ := List.mem_filter.mp hl
      obtain ⟨a, b⟩ := lots_ok most k l h1
      have h3 : l.length < most := of_decide_eq_true h2
      subst e
      refine ⟨by rw [List.length_append]; show l.length + 1 ≤ most; omega, fun x hx => ?_⟩
      rcases List.mem_append.mp hx with y | y
      · have := b x y; omega
      · rw [List.mem_singleton] at y; omega
theorem lots_len (most : Nat) : ∀ k : Nat, (lotsM most k).length ≤ 2 ^ k
  | 0 => Nat.le_refl _
  | k + 1 => by
    unfold lotsM
    rw [List.length_append, List.length_map]
    have a := lots_len most k
    have b := List.length_filter_le (fun l : List Nat => decide (l.length < most)) (lotsM most k)
    rw [Nat.pow_succ]
    omega
def cnt (S : List Nat) (k : Nat) : Nat := (S.filter fun x => decide (x < k)).length
theorem cnt_le {p k : Nat} (h : p ≤ k) : ∀ S : List Nat, cnt S p ≤ cnt S k
  | [] => Nat.le_refl _
  | x :: S => by
    have := cnt_le h S
    unfold cnt at this ⊢
    rw [List.filter_cons, List.filter_cons]
    by_cases a : x < p
    · rw [if_pos (decide_eq_true a), if_pos (decide_eq_true (show x < k by omega)), List.length_cons, List.length_cons]
      omega
    · rw [if_neg (by simpa using a)]
      split
      · rw [List.length_cons]; omega
      · exact this
theorem cnt_lt {p k : Nat} (h : p < k) : ∀ {S : List Nat}, p ∈ S → cnt S p + 1 ≤ cnt S k
  | [], z => nomatch z
  | x :: S, z => by
    have le := cnt_le (Nat.le_of_lt h) S
    by_cases e : x = p
    · subst e
      unfold cnt at le ⊢
      rw [List.filter_cons, List.filter_cons, if_neg (by simp), if_pos (decide_eq_true h), List.length_cons]
      omega
    · have ih := cnt_lt h (S := S) (by
        rcases List.mem_cons.mp z with y | y
        · exact absurd y.symm e
        · exact y)
      unfold cnt at ih ⊢
      rw [List.filter_cons, List.filter_cons]
      by_cases a : x < p
      · rw [if_pos (decide_eq_true a), if_pos (decide_eq_true (show x < k by omega)), List.length_cons, List.length_cons]
        omega
      · rw [if_neg (by simpa using a)]
        split
        · rw [List.length_cons]; omega
        · exact ih
theorem cnt_len (S : List Nat) (k : Nat) : cnt S k ≤ S.length := List.length_filter_le _ _
/-! no lot goes beyond the rows -/
theorem up_end {cs : List Cs} {pl : List Rw} {m : Nat} {S : List Nat} {p k c : Nat} (hp : p < k) (hl : p < pl.length) (hk : cnt S k ≤ c) (hc : c ≤ m)
    (ih : ∀ c, c ≤ m → cnt S p ≤ c → bdM cs pl (minsM cs pl S) p ≤ lbV cs pl m p c) : bdM cs pl (minsM cs pl S) p + (minsM cs pl S).getD p 0 ≤ leV cs pl m p c := by
  rw [minsM_at cs pl S hl]
  unfold minAt
  by_cases h : p ∈ S
  · have h1 := cnt_lt hp h
    rw [if_pos h]
    have a := ih (c - 1) (by omega) (by omega)
    have b := leV_lo cs pl m p c (by omega)
    omega
  · have h1 := cnt_le (Nat.le_of_lt hp) S
    rw [if_neg h]
    have a := ih c hc (by omega)
    have b := leV_us cs pl m p c
    omega
theorem up_begin {cs : List Cs} {pl : List Rw} {m : Nat} {S : List Nat} : ∀ (k c : Nat), k ≤ pl.length → c ≤ m → cnt S k ≤ c → bdM cs pl (minsM cs pl S) k ≤ lbV cs pl m k c := by
  intro k
  induction k using Nat.strongRecOn with
  | _ k ih =>
    intro c hk hc hs
    rw [bdM_eq, lbV_eq cs pl k hc]
    obtain ⟨a, b, _⟩ := bgn_all ((leanAt cs pl k).map fun p => leV cs pl m p c) (stAt pl k)
    refine bgn_le a fun y hy => ?_
    obtain ⟨p, hp, e⟩ := List.mem_map.mp hy
    have lt := leanAt_lt hp
    have h1 := b _ (List.mem_map.mpr ⟨p, hp, rfl⟩)
    have h2 := up_end (cs := cs) (pl := pl) (m := m) (S := S) lt (by omega) hs hc fun c' hc' hs' => ih p lt c' (by omega) hc' hs'
    show y ≤ _
    have e' : bdM cs pl (minsM cs pl S) p + (minsM cs pl S).getD p 0 = y := e
    rw [← e']
    exact Int.le_trans h2 h1
/-! some lot reaches them -/
theorem lo_end {cs : List Cs} {pl : List Rw} {m p c : Nat} (hl : p < pl.length) (hc : c ≤ m)
    (ih : ∀ c, c ≤ m → ∃ S ∈ lotsM m p, S.length ≤ c ∧ lbV cs pl m p c ≤ bdM cs pl (minsM cs pl S) p) :
    ∃ S ∈ lotsM m (p + 1), S.length ≤ c ∧ leV cs pl m p c ≤ bdM cs pl (minsM cs pl S) p + (minsM cs pl S).getD p 0 := by
  rcases leV_or cs pl m p c with e | ⟨h0, e⟩
  · obtain ⟨S, hS, hn, hb⟩ := ih c hc
    refine ⟨S, lots_mono m (Nat.le_succ p) S hS, hn, ?_⟩
    rw [minsM_at cs pl S hl, e]
    unfold minAt
    rw [if_neg (fun z => Nat.lt_irrefl _ ((lots_ok m p S hS).2 p z))]
    omega
  · obtain ⟨S, hS, hn, hb⟩ := ih (c - 1) (by omega)
    refine ⟨S ++ [p], ?_, by rw [List.length_append]; show S.length + 1 ≤ c; omega, ?_⟩
    · unfold lotsM
      exact List.mem_append_right _ (List.mem_map.mpr ⟨S, List.mem_filter.mpr ⟨hS, decide_eq_true (by omega)⟩, rfl⟩)
    · rw [minsM_at cs pl (S ++ [p]) hl, e]
      have loc : bdM cs pl (minsM cs pl (S ++ [p])) p = bdM cs pl (minsM cs pl S) p := bdM_local cs pl _ _ p fun q hq => by
        rw [minsM_at cs pl _ (show q < pl.length by omega), minsM_at cs pl _ (show q < pl.length by omega)]
        unfold minAt
        have : q ∈ S ++ [p] ↔ q ∈ S := by
          rw [List.mem_append, List.mem_singleton]
          exact ⟨fun z => z.elim id (fun y => absurd y (by omega)), .inl⟩
        simp only [this]
      rw [loc]
      unfold minAt
      rw [if_pos (List.mem_append_right _ List.mem_cons_self)]
      omega
theorem lo_begin {cs : List Cs} {pl : List Rw} {m : Nat} : ∀ (k c : Nat), k ≤ pl.length → c ≤ m → ∃ S ∈ lotsM m k, S.length ≤ c ∧ lbV cs pl m k c ≤ bdM cs pl (minsM cs pl S) k := by
  intro k
  induction k using Nat.strongRecOn with
  | _ k ih =>
    intro c hk hc
    rw [lbV_eq cs pl k hc]
    rcases List.mem_cons.mp (bgn_all ((leanAt cs pl k).map fun p => leV cs pl m p c) (stAt pl k)).2.2 with z | z
    · refine ⟨[], lots_nil m k, Nat.zero_le _, ?_⟩
      rw [z, bdM_eq]
      exact (bgn_all _ _).1
    · obtain ⟨p, hp, e⟩ := List.mem_map.mp z
      have lt := leanAt_lt hp
      obtain ⟨S, hS, hn, hb⟩ := lo_end (cs := cs) (pl := pl) (m := m) (p := p) (c := c) (by omega) hc fun c' hc' => ih p lt c' (by omega) hc'
      refine ⟨S, lots_mono m (by omega) S hS, hn, ?_⟩
      rw [← e, bdM_eq]
      refine Int.le_trans hb ?_
      exact (bgn_all _ _).2.1 _ (List.mem_map.mpr ⟨p, hp, rfl⟩)
/-! all lots together -/
def bwM (cs : List Cs) (pl : List Rw) (L : List (List Nat)) (k : Nat) : Int := bgn 0 (L.map fun S => bdM cs pl (minsM cs pl S) k)
def ewM (cs : List Cs) (pl : List Rw) (L : List (List Nat)) (k : Nat) : Int := bgn 0 (L.map fun S => bdM cs pl (minsM cs pl S) k + (minsM cs pl S).getD k 0)
theorem bw_eq {cs : List Cs} {pl : List Rw} {m k : Nat} (hk : k < pl.length) (h0 : 0 ≤ stAt pl k) : bwM cs pl (lotsM m pl.length) k = lbV cs pl m k m := by
  unfold bwM
  refine Int.le_antisymm (bgn_le ?_ fun y hy => ?_) ?_
  · rw [lbV_eq cs pl k (Nat.le_refl m)]
    exact Int.le_trans h0 (bgn_all _ _).1
  · obtain ⟨S, hS, e⟩ := List.mem_map.mp hy
    rw [← e]
    exact up_begin k m (Nat.le_of_lt hk) (Nat.le_refl m) (Nat.le_trans (cnt_len S k) (lots_ok m _ S hS).1)
  · obtain ⟨S, hS, _, hb⟩ := lo_begin (cs := cs) (pl := pl) (m := m) k m (Nat.le_of_lt hk) (Nat.le_refl m)
    refine Int.le_trans hb ((bgn_all _ _).2.1 _ (List.mem_map.mpr ⟨S, lots_mono m (Nat.le_of_lt hk) S hS, rfl⟩))
theorem ew_eq {cs : List Cs} {pl : List Rw} {m k : Nat} (hk : k < pl.length) (h0 : 0 ≤ stAt pl k) (hu : 0 ≤ (csAt cs pl k).us) : ewM cs pl (lotsM m pl.length) k = leV cs pl m k m := by
  unfold ewM
  refine Int.le_antisymm (bgn_le ?_ fun y hy => ?_) ?_
  · have a := leV_us cs pl m k m
    have b : stAt pl k ≤ lbV cs pl m k m := by rw [lbV_eq cs pl k (Nat.le_refl m)]; exact (bgn_all _ _).1
    omega
  · obtain ⟨S, hS, e⟩ := List.mem_map.mp hy
    rw [← e]
    exact up_end hk hk (Nat.le_trans (cnt_len S _) (lots_ok m _ S hS).1) (Nat.le_refl m) fun c hc hs => up_begin k c (Nat.le_of_lt hk) hc hs
  · obtain ⟨S, hS, _, hb⟩ := lo_end (cs := cs) (pl := pl) (m := m) (p := k) (c := m) hk (Nat.le_refl m) fun c hc => lo_begin k c (Nat.le_of_lt hk) hc
    exact Int.le_trans hb ((bgn_all _ _).2.1 _ (List.mem_map.mpr ⟨S, lots_mono m hk S hS, rfl⟩))
def latM (cs : List Cs) (pl : List Rw) (m : Nat) : List T3 := (List.range pl.length).map fun k => (nmAt pl k, lbV cs pl m k m, leV cs pl m k m)
end Go
namespace Go
open PySem PySem.Spec PyProof.Rows L2 SetMix ZipE
local macro_rules | `(tactic| walk_at "g") => `(tactic| first
  | ((with_reducible refine gd_var (d := ?dd) ?hv ?_); (case hv => exact rfl))
  | ((with_reducible refine gd_ixScr (ns := ?ns) ?hv ?_); (case hv => exact rfl))
  | ((with_reducible refine gd_ixCel (j := ?jj) ?hv ?_); (case hv => exact rfl))
  | ((with_reducible refine gd_lenScr (ns := ?ns) ?hv ?_); (case hv => exact rfl))
  | with_reducible first
    | refine gs_seq ?_ | refine gs_next ?_ | refine gs_ret ?_ | refine gs_asgD ?_ | refine gs_if ?_
    | refine gt_test ?_ | refine gt_B ?_ | refine gt_and ?_ | refine gt_or ?_ | refine gt_not ?_ | refine gt_yes ?_
    | refine gd_int ?_ | refine gd_str ?_ | refine gd_bl ?_ | refine gd_non ?_
    | refine gd_op ?_ | refine gd_tup ?_ | refine gd_lst ?_
    | refine gd_cb (r := rLenA _) ?_ | refine gd_cb (r := rTupleA _) ?_ | refine gd_cb (r := rAbsA) ?_ | refine gd_cb (r := rMax2A) ?_ | refine gd_cb (r := rMin2A) ?_ | refine gd_cb (r := rIntA) ?_ | refine gd_cb (r := rAny _) ?_ | refine gd_cb (r := rAll _) ?_ | refine gd_cb (r := rDictP _) ?_ | refine gd_cb (r := rMax _) ?_ | refine gd_cb (r := rMin _) ?_
    | refine gs_cons ?_ | refine gs_nil ?_ | refine gd_dget ?_
    | refine gd_and ?_ | refine gd_or ?_ | refine gd_not ?_
    | refine opd_addI ?_ | refine opd_sub ?_ | refine opd_lt ?_ | refine opd_le ?_ | refine opd_gt ?_ | refine opd_ge ?_
    | refine opd_lenL ?_ | refine opd_lenT ?_ | refine opd_tupleL ?_ | refine opd_tupleT ?_ | refine opd_max2 ?_ | refine opd_min2 ?_ | refine opd_abs ?_ | refine opd_intB ?_
    | refine Exists.intro _ (And.intro rfl ?_))
mutual
theorem eqv_self : ∀ d : D, d.canLay0 = true → PyData.eqv d d = true
  | .none, _ => by simp [PyData.eqv]
  | .bool b, _ => by simp [PyData.eqv]
  | .int i, _ => by simp [PyData.eqv]
  | .str x, _ => by simp [PyData.eqv]
  | .list xs, h => by unfold PyData.eqv; exact eqvAll_self xs (by unfold PyData.canLay0 at h; exact h)
  | .tuple xs, h => by unfold PyData.eqv; exact eqvAll_self xs (by unfold PyData.canLay0 at h; exact h)
  | .dict _, h => by unfold PyData.canLay0 at h; cases h
theorem eqvAll_self : ∀ ds : List D, PyData.canLayAll0 ds = true → PyData.eqvAll ds ds = true
  | [], _ => by simp [PyData.eqvAll]
  | d :: ds, h => by
    unfold PyData.canLayAll0 at h
    rw [Bool.and_eq_true] at h
    unfold PyData.eqvAll
    rw [eqv_self d h.1, eqvAll_self ds h.2]
    rfl
end
theorem layL {α : Type} (f : α → D) : ∀ {xs : List α}, (∀ a ∈ xs, (f a).canLay0 = true) → PyData.canLayAll0 (xs.map f) = true
  | [], _ => by simp [PyData.canLayAll0]
  | x :: xs, h => by
    rw [List.map_cons]
    unfold PyData.canLayAll0
    rw [Bool.and_eq_true]
    exact ⟨h x List.mem_cons_self, layL f fun y hy => h y (List.mem_cons_of_mem _ hy)⟩
theorem depL {α : Type} (f : α → D) {k : Nat} : ∀ {xs : List α}, (∀ a ∈ xs, (f a).depth ≤ k) → PyData.depthAll (xs.map f) ≤ k
  | [], _ => by simp [PyData.depthAll]
  | x :: xs, h => by
    rw [List.map_cons]
    unfold PyData.depthAll
    have a := h x List.mem_cons_self
    have b := depL f fun y hy => h y (List.mem_cons_of_mem _ hy)
    omega
theorem shapedL {α : Type} (f : α → D) {xs : List α} (h1 : ∀ a ∈ xs, (f a).canLay0 = true) (h2 : ∀ a ∈ xs, (f a).depth ≤ 60) : SeqAt.shaped (.list (xs.map f)) = true := by
  unfold SeqAt.shaped
  rw [Bool.and_eq_true]
  refine ⟨by unfold PyData.canLay0; exact layL f h1, decide_eq_true ?_⟩
  unfold PyData.depth
  have := depL f h2
  omega
theorem lay_list {xs : List D} (h : SeqAt.shaped (.list xs) = true) : PyData.eqv (.list xs) (.list xs) = true := eqv_self _ (SeqAt.canLay_of_shaped h)
theorem lay_encN (ns : List Nat) : (encN ns).canLay0 = true := by
  unfold encN PyData.canLay0
  exact layL encI fun a _ => by simp [encI, PyData.canLay0]
theorem dep_encN (ns : List Nat) : (encN ns).depth ≤ 60 := by
  unfold encN PyData.depth
  have := depL (k := 0) (xs := ns) encI fun a _ => by simp [encI, PyData.depth]
  omega
theorem shaped_leans (cs : List Cs) (pl : List Rw) : SeqAt.shaped (.list ((leansM cs pl).map encN)) = true := shapedL encN (fun a _ => lay_encN a) fun a _ => dep_encN a
theorem td_ok {cs : List Cs} {pl : List Rw} {mins : List Int} (ok : OkP cs pl) : ∀ {k : Nat}, k ≤ pl.length → ∀ t ∈ tdM cs pl mins k, okS t.1
  | 0, _, _, h => nomatch h
  | k + 1, hk, t, h => by
    unfold tdM at h
    rcases List.mem_append.mp h with z | z
    · exact td_ok ok (by omega) t z
    · rw [List.mem_singleton] at z
      rw [z]
      obtain ⟨c, hc, e⟩ := ok.mem _ (getD_mem (show k < pl.length by omega))
      show okS (pl.getD k default).nm
      rw [← e]
      exact ok.okn c hc
theorem shaped_td {cs : List Cs} {pl : List Rw} {mins : List Int} (ok : OkP cs pl) : SeqAt.shaped (.list ((tdAll cs pl mins).map encT)) = true :=
  shapedL encT (fun t ht => by
    have h := td_ok ok (Nat.le_refl _) t ht
    unfold okS at h
    simp [encT, PyData.canLay0, PyData.canLayAll0] at h ⊢
    exact h) fun t _ => by simp [encT, PyData.depth, PyData.depthAll]
theorem shaped_ints {α : Type} (f : α → Int) (xs : List α) : SeqAt.shaped (.list (xs.map fun a => .int (f a))) = true := shapedL _ (fun a _ => by simp [PyData.canLay0]) fun a _ => by simp [PyData.depth]
def usM (cs : List Cs) (pl : List Rw) : List Int := pl.map fun r => (getC cs r.nm).us
def encB (t : T3) : D := .int t.2.1
def encS (r : Rw) : D := .int r.st
def smoothM (cs : List Cs) (pl : List Rw) : Bool := PyData.eqv (.list ((tdAll cs pl (usM cs pl)).map encB)) (.list (pl.map encS))
def Ris_smooth : RSpec := fun ss g post => ∃ cs pl, ss = [.d (encCs cs), .d (encP pl)] ∧ g = [] ∧ OkP cs pl ∧ (∀ c ∈ cs, c.tm.length ≤ 1000) ∧ post (.bool (smoothM cs pl)) []
section
variable {K : PySem.W.Frag} {wd : PySem.World} {n : Nat} {ρ ts : List SV} {g : List Cell}
def tis_smooth (K : PySem.W.Frag) (wd : PySem.World) : TS := (tSeq (tAsg (tCB (rTupleA K) (tCons (tLc (iList K (tCall (spOf K Rin_order) [] E0 (tCons (tVar 0) (tCons (tVar 1) tNil)))) (gName 4) tYes (tOp (rIx K) (tVar 4) (tC (.int 1))) [4]) tNil)) (gName 2)) (tSeq (tAsg (tLc (iList K (tCall (spOf K Rtold_day) [] E0 (tCons (tVar 0) (tCons (tVar 1) (tCons (tVar 2) tNil))))) (gTup K 3 (gCons (gName 5) (gCons (gName 6) (gCons (gName 7) gNil)))) tYes (tVar 6) [5, 6, 7]) (gName 3)) (tRet (tOp (rEqD K) (tVar 3) (tLc (iTup K (tVar 1)) (gTup K 3 (gCons (gName 8) (gCons (gName 5) (gCons (gName 9) gNil)))) tYes (tVar 8) [8, 5, 9])))))
def encU (c : Cs) : D := .int c.us
theorem us_enc (cs : List Cs) (pl : List Rw) : (planned cs pl).map encU = (usM cs pl).map PyData.int := by
  unfold planned usM
  rw [List.map_map, List.map_map]
  rfl
theorem go_is_smooth (ss : List SV) (g : List Cell) (post : D → List Cell → Prop) (h : Ris_smooth ss g post) : GoS K g.length (tis_smooth K wd) (ss ++ List.replicate (10 - ss.length) .no) g (KF g.length post) := by
  obtain ⟨cs, pl, rfl, rfl, ok, okl, p⟩ := h
  unfold tis_smooth
  have l8 := ok.lp
  refine gs_seq (gs_asgD (gd_cb (r := rTupleA K) (gs_cons (gd_mapT encC encU mg_name (ij_name (by simp)) (gi_list (gd_call ?_))))))
  (repeat (walk_at "g"))
  refine ⟨cs, pl, rfl, rfl, ok, _, rfl, planned cs pl, rfl, by unfold planned; rw [List.length_map]; omega, fun i c hc => gg_name ?_, ?_⟩
  · (repeat (walk_at "g"))
    exact opd_ixT (d := .int c.us) rfl ⟨rfl, rfl⟩
  rw [us_enc]
  (repeat (walk_at "g"))
  refine gd_mapT encT encB mg3 (ij3 (by simp) (by simp) (by simp)) (gi_list (gd_call ?_))
  (repeat (walk_at "g"))
  refine ⟨cs, pl, usM cs pl, rfl, rfl, ok, okl, by unfold usM; rw [List.length_map], _, rfl, tdAll cs pl (usM cs pl), rfl, by unfold tdAll; rw [tdM_len]; omega, fun i t ht => gg3 (gd_var rfl ⟨rfl, rfl⟩), ?_⟩
  (repeat (walk_at "g"))
  refine gd_mapT encR encS mg3 (ij3 (by simp) (by simp) (by simp)) (gi_tup (gd_var rfl ⟨_, rfl, pl, rfl, by omega, fun i r hr => gg3 (gd_var rfl ⟨rfl, rfl⟩), ?_⟩))
  exact opd_eq (shaped_ints (fun t : T3 => t.2.1) _) (shaped_ints (fun r : Rw => r.st) _) ⟨_, rfl, p⟩
def R_law03 : RSpec := fun ss g post => ∃ ns : List Int, ss = [.s ns] ∧ g = [] ∧ post (.bool true) []
def t_law03 (K : PySem.W.Frag) (wd : PySem.World) : TS := (tSeq (tFor (iRng1 (tCons (tOp (rAddA K) (tC (.int 1)) (tCB rMin2A (tCons (tCB (rLenA K) (tCons (tVar 0) tNil)) (tCons (tC (.int 30)) tNil)))) tNil)) (gName 1) (tSeq (tAsg (tCall (spNew K R_law_bag) [] E0 (tCons (tVar 0) (tCons (tVar 1) tNil))) (gName 2)) (tSeq (tAsg (tCall (spOf K R_law_drawn) [] E0 (tCons (tVar 2) (tCons (tC (.int 8)) tNil))) (gTup K 3 (gCons (gName 10) (gCons (gName 11) (gCons (gName 12) gNil))))) (tSeq (tAsg (tCall (spOf K Rleans) [] E0 (tCons (tVar 11) (tCons (tVar 12) tNil))) (gName 3)) (tSeq (tIfS (tOr (tTest (tOp (rNeD K) (tVar 3) (tCall (spOf K R_law_leans) [] E0 (tCons (tVar 11) (tCons (tVar 12) tNil))))) (tNot (tB (tCB (rIsi K) (tCons (tVar 3) (tCons (tC (.ty "list")) tNil)))))) (tRet (tC (.bl false))) tNext) (tSeq (tFor (iRng1 (tCons (tC (.int 4)) tNil)) (gName 4) (tSeq (tAsg (tOp (rIx K) (tLst (tCons (tC (.int 3)) (tCons (tC (.int 30)) (tCons (tC (.int 400)) (tCons (tOp (rI CPow fun i j => V.int (i ^ j.toNat)) (tC (.int 10)) (tC (.int 39))) tNil))))) (tCall (spOf K R_law_take) [] E0 (tCons (tVar 2) (tCons (tC (.int 4)) tNil)))) (gName 13)) (tSeq (tAsg (tCB (rTupleA K) (tCons (tLc (iTup K (tVar 12)) (gName 16) tYes (tOp (rAddA K) (tC (.int 1)) (tCall (spOf K R_law_take) [] E0 (tCons (tVar 2) (tCons (tVar 13) tNil)))) [16]) tNil)) (gName 14)) (tIfS (tTest (tOp (rNeD K) (tCall (spOf K Rtold_day) [] E0 (tCons (tVar 11) (tCons (tVar 12) (tCons (tVar 14) tNil)))) (tCall (spOf K R_law_told_day) [] E0 (tCons (tVar 11) (tCons (tVar 12) (tCons (tVar 14) tNil)))))) (tRet (tC (.bl false))) tNext)))) (tSeq (tAsg (tCB (rDictP K) (tCons (tLc (iTup K (tVar 11)) (gName 15) tYes (tTup (tCons (tOp (rIx K) (tVar 15) (tC (.int 0))) (tCons (tVar 15) tNil))) [15]) tNil)) (gName 5)) (tSeq (tAsg (tCB (rTupleA K) (tCons (tLc (iTup K (tVar 12)) (gName 16) tYes (tOp (rIx K) (tDGet (tVar 5) (tOp (rIx K) (tVar 16) (tC (.int 1)))) (tC (.int 1))) [16]) tNil)) (gName 6)) (tSeq (tAsg (tCall (spOf K R_law_told_day) [] E0 (tCons (tVar 11) (tCons (tVar 12) (tCons (tVar 6) tNil)))) (gName 7)) (tSeq (tAsg (tOp (rEqD K) (tLc (iList K (tVar 7)) (gName 17) tYes (tOp (rIx K) (tVar 17) (tC (.int 1))) [17]) (tLc (iTup K (tVar 12)) (gName 16) tYes (tOp (rIx K) (tVar 16) (tC (.int 0))) [16])) (gName 8)) (tSeq (tAsg (tCall (spOf K Ris_smooth) [] E0 (tCons (tVar 11) (tCons (tVar 12) tNil))) (gName 9)) (tIfS (tOr (tNot (tB (tCB (rIsi K) (tCons (tVar 9) (tCons (tC (.ty "bool")) tNil))))) (tTest (tOp (rNeD K) (tVar 9) (tVar 8)))) (tRet (tC (.bl false))) tNext)))))))))))) (tRet (tC (.bl true))))
theorem go_law03 (ss : List SV) (g : List Cell) (post : D → List Cell → Prop) (h : R_law03 ss g post) : GoS K g.length (t_law03 K wd) (ss ++ List.replicate (18 - ss.length) .no) g (KF g.length post) := by
  obtain ⟨ns, rfl, rfl, p⟩ := h
  unfold t_law03
  refine gs_seq (gs_for (gi_rng1 ?_))
  (repeat (walk_at "g"))
  have hle : (if (30 : Int) < (ns.length : Int) then 30 else (ns.length : Int)) ≤ 30 ∧ 0 ≤ (if (30 : Int) < (ns.length : Int) then 30 else (ns.length : Int)) := by split <;> omega
  refine ⟨by omega, by omega, ?_⟩
  refine ⟨fun i ρ g => ∃ x1 x2 x3 x4 x5 x6 x7 x8 x9 y0 y1 y2 y3 y4 y5 y6 y7 : SV, ρ = [.s ns, x1, x2, x3, x4, x5, x6, x7, x8, x9, y0, y1, y2, y3, y4, y5, y6, y7] ∧ g = [], ⟨.no, .no, .no, .no, .no, .no, .no, .no, .no, .no, .no, .no, .no, .no, .no, .no, .no, rfl, rfl⟩, fun k d ρ' g' hi ⟨x1, x2, x3, x4, x5, x6, x7, x8, x9, y0, y1, y2, y3, y4, y5, y6, y7, e1, e2⟩ _ => ?_, fun ρ' g' ⟨x1, x2, x3, x4, x5, x6, x7, x8, x9, y0, y1, y2, y3, y4, y5, y6, y7, e1, e2⟩ _ => ?_⟩
  · subst e1 e2
    obtain ⟨rfl, lk⟩ := rng_at hi
    refine gg_name (gs_seq (gs_asg (ge_callN (ga_cons (ge_var rfl (fun z => nomatch z) (ga_cons (ge_var rfl (fun z => nomatch z) (ga_nil ⟨fun s hs j => ?_, ns, k, rfl, by omega, fun b hb => ?_⟩))))))))
    · rcases List.mem_cons.mp hs with z | z
      · rw [z]; exact fun y => nomatch y
      · rw [List.mem_singleton] at z; rw [z]; exact fun y => nomatch y
    refine gs_seq (gs_asgG (gd_bag rfl (gs_cons (gd_int (gs_nil ⟨b, rfl, b, 8, rfl, rfl, hb, by decide, fun h cs pl b1 hH hC _ hP hb1 => ⟨b1, rfl, gg3 ?_⟩⟩)))))
    have ok : OkP cs pl := okP_of hH hC hP
    have okl : ∀ c ∈ cs, c.tm.length ≤ 1000 := fun c hc => by have := (hC.al c hc).tl; omega
    have l8 := ok.lp
    -- rows
    refine gs_seq (gs_asgD (gd_call ?_))
    (repeat (walk_at "g"))
    refine ⟨cs, pl, rfl, rfl, ok, okl, ?_⟩
    refine gs_seq (gs_if (gt_or (gt_test (gd_op (gd_var rfl (gd_call ?_))))))
    (repeat (walk_at "g"))
    refine ⟨cs, pl, rfl, rfl, ok, okl, opd_ne (shaped_leans cs pl) (shaped_leans cs pl) ?_⟩
    rw [lay_list (shaped_leans cs pl)]
    refine ⟨_, rfl, fun _ => gt_not (gt_B (gd_isi (by simp) (gd_var rfl ⟨_, rfl, fun z => (nomatch z), fun _ => gs_next ?_⟩))), fun z => nomatch z⟩
    -- four days
    refine gs_seq (gs_for (gi_rng1 (gs_cons (gd_int (gs_nil ⟨_, rfl, by decide, by decide, ?_⟩)))))
    refine ⟨fun i ρ g => ∃ (z4 z5 z6 z7 z8 z9 z13 z14 w5 w6 w7 : SV) (b : List D), ρ = [.s ns, .d (.int (k : Int)), .c 0, .d (.list ((leansM cs pl).map encN)), z4, z5, z6, z7, z8, z9, .d (encH h), .d (encCs cs), .d (encP pl), z13, z14, w5, w6, w7] ∧ g = [some b] ∧ Bag b, ⟨_, _, _, _, _, _, _, _, _, _, _, b1, rfl, rfl, hb1⟩, fun i d ρ' g' hi ⟨z4, z5, z6, z7, z8, z9, z13, z14, w5, w6, w7, b, e1, e2, hb⟩ _ => ?_, fun ρ' g' ⟨z4, z5, z6, z7, z8, z9, z13, z14, w5, w6, w7, b, e1, e2, hb⟩ _ => ?_⟩
    · subst e1 e2
      obtain ⟨rfl, _⟩ := rng_at hi
      refine gg_name (gs_seq (gs_asgD ?_))
      (repeat (walk_at "g"))
      refine opd_pow ⟨by decide, by decide, by decide⟩ ?_
      (repeat (walk_at "g"))
      refine ⟨by show 4 ≤ 100000; decide, gd_take rfl (gd_int ⟨_, b, rfl, rfl, hb, by decide, by decide, fun m b2 m0 m1 hb2 => opd_pick m0 (by show m < 4; exact m1) fun d hd => ?_⟩)⟩
      obtain ⟨most, e, f1, f2⟩ : ∃ x : Int, d = .int x ∧ 1 ≤ x ∧ x < 2 ^ 200 := by
        have hd' : d = .int 3 ∨ d = .int 30 ∨ d = .int 400 ∨ d = .int (10 ^ (39 : Int).toNat) := by simpa using hd
        rcases hd' with rfl | rfl | rfl | rfl
        · exact ⟨3, rfl, by decide, by decide⟩
        · exact ⟨30, rfl, by decide, by decide⟩
        · exact ⟨400, rfl, by decide, by decide⟩
        · exact ⟨_, rfl, by decide, by decide⟩
      subst e
      refine gs_seq (gs_asgD (gd_cb (r := rTupleA K) (gs_cons (gd_lc mg_name (ij_name (by simp)) (gi_tup (gd_var rfl ⟨_, rfl, ?_⟩))))))
      refine ⟨by rw [List.length_map]; omega, fun i acc g => ∃ (xs : List Int) (b : List D), g = [some b] ∧ Bag b ∧ acc = xs.map PyData.int ∧ xs.length = i, ⟨[], b2, rfl, hb2, rfl, rfl⟩, fun i d acc g2 hi ⟨xs, b3, e1, hb3, e2, hl⟩ => ?_, fun acc g2 ⟨mins, b3, e1, hb3, e2, hl⟩ => ?_⟩
      · subst e1 e2
        refine gg_name (gt_yes ⟨fun _ => gd_op (gd_int (gd_take rfl (gd_var rfl ⟨most, b3, rfl, rfl, hb3, f1, f2, fun q b4 q0 q1 hb4 => opd_addI ⟨rfl, xs ++ [1 + q], b4, rfl, hb4, by rw [List.map_append]; rfl, by rw [List.length_append, hl]; rfl⟩⟩))), fun z => nomatch z⟩)
      · subst e1 e2
        rw [List.length_map] at hl
        (repeat (walk_at "g"))
        refine gd_call ?_
        (repeat (walk_at "g"))
        refine ⟨cs, pl, mins, rfl, rfl, ok, okl, hl, gd_call ?_⟩
        (repeat (walk_at "g"))
        refine ⟨cs, pl, mins, rfl, rfl, ok, okl, hl, opd_ne (shaped_td ok) (shaped_td ok) ?_⟩
        rw [lay_list (shaped_td ok)]
        exact ⟨_, rfl, fun z => (nomatch z), fun _ => gs_next ⟨_, _, _, _, _, _, _, _, _, _, _, b3, rfl, rfl, hb3⟩⟩
    · subst e1 e2
      -- the usual day
      refine gs_seq (gs_asgD (gd_cb (r := rDictP K) (gs_cons (gd_mapT encC encCt mg_name (ij_name (by simp)) (gi_tup (gd_var rfl ⟨_, rfl, cs, rfl, by have := ok.lc; omega, fun i c hc => gg_name ?_, ?_⟩))))))
      · (repeat (walk_at "g"))
        refine opd_ixT (d := .str c.nm) rfl ?_
        (repeat (walk_at "g"))
        exact ⟨by show 2 ≤ 100000; decide, rfl, rfl⟩
      rw [enc_pr]
      refine gs_nil (opd_dict ?_)
      refine gs_seq (gs_asgD (gd_cb (r := rTupleA K) (gs_cons (gd_mapT encR (fun r => .int (getC cs r.nm).us) mg_name (ij_name (by simp)) (gi_tup (gd_var rfl ⟨_, rfl, pl, rfl, by omega, fun i r hr => gg_name ?_, ?_⟩))))))
      · (repeat (walk_at "g"))
        refine opd_ixT (d := .str r.nm) rfl ⟨.inr r.nm, _, rfl, lk_dictC ok (List.mem_of_getElem? hr), ?_⟩
        (repeat (walk_at "g"))
        exact opd_ixT (d := .int _) rfl ⟨rfl, rfl⟩
      have eu : pl.map (fun r => PyData.int (getC cs r.nm).us) = (usM cs pl).map PyData.int := by
        unfold usM
        rw [List.map_map]
        rfl
      rw [eu]
      (repeat (walk_at "g"))
      refine gd_call ?_
      (repeat (walk_at "g"))
      refine ⟨cs, pl, usM cs pl, rfl, rfl, ok, okl, by unfold usM; rw [List.length_map], ?_⟩
      refine gs_seq (gs_asgD (gd_op (gd_mapT encT encB mg_name (ij_name (by simp)) (gi_list (gd_var rfl ⟨_, rfl, tdAll cs pl (usM cs pl), rfl, by unfold tdAll; rw [tdM_len]; omega, fun i t ht => gg_name ?_, ?_⟩)))))
      · (repeat (walk_at "g"))
        exact opd_ixT (d := .int t.2.1) rfl ⟨rfl, rfl⟩
      refine gd_mapT encR encS mg_name (ij_name (by simp)) (gi_tup (gd_var rfl ⟨_, rfl, pl, rfl, by omega, fun i r hr => gg_name ?_, ?_⟩))
      · (repeat (walk_at "g"))
        exact opd_ixT (d := .int r.st) rfl ⟨rfl, rfl⟩
      refine opd_eq (shaped_ints (fun t : T3 => t.2.1) _) (shaped_ints (fun r : Rw => r.st) _) ?_
      refine gs_seq (gs_asgD (gd_call ?_))
      (repeat (walk_at "g"))
      refine ⟨cs, pl, rfl, rfl, ok, okl, ?_⟩
      refine gs_if (gt_or (gt_not (gt_B (gd_isi (by simp) (gd_var rfl ⟨_, rfl, fun _ => ?_, fun z => nomatch z⟩)))))
      refine gt_test (gd_op (gd_var rfl (gd_var rfl (opd_ne rfl rfl ?_))))
      have : PyData.eqv (.bool (smoothM cs pl)) (.bool (PyData.eqv (.list ((tdAll cs pl (usM cs pl)).map encB)) (.list (pl.map encS)))) = true := eqv_self _ (by simp [PyData.canLay0])
      rw [this]
      exact ⟨_, rfl, fun z => (nomatch z), fun _ => gs_next ⟨_, _, _, _, _, _, _, _, _, _, _, _, _, _, _, _, _, rfl, rfl⟩⟩
  · subst e1 e2
    exact gs_ret (gd_bl ⟨_, rfl, p⟩)
end
end Go
namespace Go
open PySem PySem.Spec PyProof.Rows L2 SetMix ZipE
local macro_rules | `(tactic| walk_at "g") => `(tactic| first
  | ((with_reducible refine gd_var (d := ?dd) ?hv ?_); (case hv => exact rfl))
  | ((with_reducible refine gd_ixScr (ns := ?ns) ?hv ?_); (case hv => exact rfl))
  | ((with_reducible refine gd_ixCel (j := ?jj) ?hv ?_); (case hv => exact rfl))
  | ((with_reducible refine gd_lenScr (ns := ?ns) ?hv ?_); (case hv => exact rfl))
  | with_reducible first
    | refine gs_seq ?_ | refine gs_next ?_ | refine gs_ret ?_ | refine gs_asgD ?_ | refine gs_if ?_
    | refine gt_test ?_ | refine gt_B ?_ | refine gt_and ?_ | refine gt_or ?_ | refine gt_not ?_ | refine gt_yes ?_
    | refine gd_int ?_ | refine gd_str ?_ | refine gd_bl ?_ | refine gd_non ?_
    | refine gd_op ?_ | refine gd_tup ?_ | refine gd_lst ?_
    | refine gd_cb (r := rLenA _) ?_ | refine gd_cb (r := rTupleA _) ?_ | refine gd_cb (r := rAbsA) ?_ | refine gd_cb (r := rMax2A) ?_ | refine gd_cb (r := rMin2A) ?_ | refine gd_cb (r := rIntA) ?_ | refine gd_cb (r := rAny _) ?_ | refine gd_cb (r := rAll _) ?_ | refine gd_cb (r := rDictP _) ?_ | refine gd_cb (r := rMax _) ?_ | refine gd_cb (r := rMin _) ?_
    | refine gs_cons ?_ | refine gs_nil ?_ | refine gd_dget ?_
    | refine gd_and ?_ | refine gd_or ?_ | refine gd_not ?_
    | refine opd_addI ?_ | refine opd_sub ?_ | refine opd_lt ?_ | refine opd_le ?_ | refine opd_gt ?_ | refine opd_ge ?_
    | refine opd_lenL ?_ | refine opd_lenT ?_ | refine opd_tupleL ?_ | refine opd_tupleT ?_ | refine opd_max2 ?_ | refine opd_min2 ?_ | refine opd_abs ?_ | refine opd_intB ?_
    | refine Exists.intro _ (And.intro rfl ?_))
def encL (xs : List Int) : D := .list (xs.map PyData.int)
def Seq (d : D) (ds : List D) : Prop := d = .list ds ∨ d = .tuple ds
def Rmost_over : RSpec := fun ss g post => ∃ m : Nat, ss = [.d (.int (m : Int))] ∧ g = [] ∧ post (.int (m : Int)) []
def Rlatest_end : RSpec := fun ss g post => ∃ (c : Cs) (d : D) (bs : List Int) (k : Nat), ss = [.d (encC c), .d d, .d (.int (k : Int))] ∧ g = [] ∧ Seq d (bs.map PyData.int) ∧ k < bs.length ∧ post (.int (leM c bs k)) []
def Rlatest_begins : RSpec := fun ss g post => ∃ cs pl, ∃ m : Nat, ss = [.d (encCs cs), .d (encP pl), .d (.int (m : Int))] ∧ g = [] ∧ OkP cs pl ∧ (∀ c ∈ cs, c.tm.length ≤ 1000) ∧ m ≤ 1000 ∧ post (.list ((lbAll cs pl m).map encL)) []
def Rlatest : RSpec := fun ss g post => ∃ cs pl, ∃ m : Nat, ss = [.d (encCs cs), .d (encP pl), .d (.int (m : Int))] ∧ g = [] ∧ OkP cs pl ∧ (∀ c ∈ cs, c.tm.length ≤ 1000) ∧ m ≤ 1000 ∧ post (.list ((latM cs pl m).map encT)) []
def R_law_lots : RSpec := fun ss g post => ∃ n m : Nat, ss = [.d (.int (n : Int)), .d (.int (m : Int))] ∧ g = [] ∧ n ≤ 8 ∧ post (.list ((lotsM m n).map encN)) []
def R_law_minutes : RSpec := fun ss g post => ∃ cs pl S d, ss = [.d (encCs cs), .d (encP pl), .d d] ∧ g = [] ∧ Seq d (S.map encI) ∧ OkP cs pl ∧ post (.tuple ((minsM cs pl S).map PyData.int)) []
def R_law_worst : RSpec := fun ss g post => ∃ cs pl, ∃ m : Nat, ss = [.d (encCs cs), .d (encP pl), .d (.int (m : Int))] ∧ g = [] ∧ OkP cs pl ∧ (∀ c ∈ cs, c.tm.length ≤ 1000) ∧ (∀ r ∈ pl, 0 ≤ r.st) ∧ (∀ c ∈ cs, 0 ≤ c.us) ∧ post (.list ((latM cs pl m).map encT)) []
section
variable {K : PySem.W.Frag} {wd : PySem.World} {n : Nat} {ρ ts : List SV} {g : List Cell}
theorem gd_rep {ta tb : TE} {post : D → List Cell → Prop} (h : GoE K n ta ρ ts g fun s g1 => ∃ j : Nat, s = .c j ∧ GoD K n tb ρ (.c j :: ts) g1 fun dk g2 => ∃ (k : Nat) (ds : List D), dk = .int (k : Int) ∧ g2[j]? = some (some ds) ∧ ds.length * k ≤ 100000 ∧ k ≤ 100000 ∧ post (.list (List.replicate k ds).flatten) g2) : GoD K n (tOp rRep ta tb) ρ ts g post := by
  intro I0 H0 bs σ vs H hn w Q q
  refine h I0 H0 bs σ vs H hn w _ fun v H1 s g1 w1 ⟨j, e, p⟩ => ?_
  subst e
  refine p I0 H0 bs σ _ H1 hn w1 _ fun x H2 s2 g2 ⟨I, ls, w2⟩ ⟨di, e, k, ds, e2, hg, hz, hk, pp⟩ => ?_
  subst e e2
  obtain ⟨w3, r2⟩ := w2.pop
  obtain ⟨w4, r1⟩ := w3.pop
  cases r1 with
  | @c a _ hp =>
    cases r2 with
    | d ii =>
      cases is_int ii
      obtain ⟨_, xs, hx, ia⟩ := w4.ce.at hp hg
      refine ⟨a, (k : Int), xs, rfl, rfl, hx, by omega, by omega, by rw [Int.toNat_natCast, ia.length]; exact Evl.sz_of hz, fun p' hp' => ?_⟩
      have f := fr_new (o := .lst (List.replicate (k : Int).toNat xs).flatten) w4.fr.ih hp'
      exact q (.ref p') _ (.d (.list (List.replicate k ds).flatten)) g2 ⟨_, ls, (w4.step f).push (.d (.lst (.inl upd_same) ((isAll_rep ia k).mono f.ii)))⟩ ⟨_, rfl, pp⟩
theorem opd_ixLT {d e : D} {ds : List D} {i : Int} {post : D → Prop} (hd : Seq d ds) (h : atI ds i = some e) (p : post e) : OpD K (un2 (rIx K)) [d, .int i] post := by
  rcases hd with rfl | rfl
  · exact opd_ixL h p
  · exact opd_ixT h p
theorem opd_inLT {neg : Bool} {d e : D} {ds : List D} {post : D → Prop} (hd : Seq e ds) (fd : flatD d = true) (fs : ds.all flatD = true) (p : post (.bool (if neg then !(ds.any fun y => PyData.eqv y d) else ds.any fun y => PyData.eqv y d))) : OpD K (un2 (rIn K neg)) [d, e] post := by
  rcases hd with rfl | rfl
  · exact opd_inL fd fs p
  · exact opd_inT fd fs p
theorem ix_int {bs : List Int} {k : Nat} (h : k < bs.length) : atI (bs.map PyData.int) (k : Int) = some (.int (bs.getD k 0)) := by
  refine atI_nat ?_
  rw [List.getElem?_map, List.getD_eq_getElem?_getD, List.getElem?_eq_getElem h]
  rfl
def tmost_over (K : PySem.W.Frag) (wd : PySem.World) : TS := (tRet (tCB rMax2A (tCons (tVar 0) (tCons (tC (.int 0)) tNil))))
theorem go_most_over (ss : List SV) (g : List Cell) (post : D → List Cell → Prop) (h : Rmost_over ss g post) : GoS K g.length (tmost_over K wd) (ss ++ List.replicate (1 - ss.length) .no) g (KF g.length post) := by
  obtain ⟨m, rfl, rfl, p⟩ := h
  unfold tmost_over
  (repeat (walk_at "g"))
  rw [show (if (0 : Int) > (m : Int) then 0 else (m : Int)) = (m : Int) by split <;> omega]
  exact ⟨_, rfl, p⟩
def tlatest_end (K : PySem.W.Frag) (wd : PySem.World) : TS := (tSeq (tAsg (tOp (rAddA K) (tOp (rIx K) (tVar 1) (tVar 2)) (tOp (rIx K) (tVar 0) (tC (.int 1)))) (gName 3)) (tSeq (tIfS (tTest (tOp (rI0 fun i j => V.bl (decide (j < i))) (tVar 2) (tC (.int 0)))) (tAsg (tCB rMax2A (tCons (tVar 3) (tCons (tOp (rAddA K) (tOp (rIx K) (tVar 1) (tOp (rI0 fun i j => V.int (i - j)) (tVar 2) (tC (.int 1)))) (tOp (rIx K) (tVar 0) (tC (.int 2)))) tNil))) (gName 3)) tNext) (tRet (tVar 3))))
theorem go_latest_end (ss : List SV) (g : List Cell) (post : D → List Cell → Prop) (h : Rlatest_end ss g post) : GoS K g.length (tlatest_end K wd) (ss ++ List.replicate (4 - ss.length) .no) g (KF g.length post) := by
  obtain ⟨c, d, bs, k, rfl, rfl, hd, hk, p⟩ := h
  unfold tlatest_end
  (repeat (walk_at "g"))
  refine opd_ixLT hd (ix_int hk) ?_
  (repeat (walk_at "g"))
  refine opd_ixT (d := .int c.us) rfl ?_
  (repeat (walk_at "g"))
  refine ⟨fun hb => ?_, fun hb => ?_⟩
  · have h0 : 0 < k := by simpa using hb
    (repeat (walk_at "g"))
    refine opd_ixLT hd (e := .int (bs.getD (k - 1) 0)) (by rw [show ((k : Int) - 1) = ((k - 1 : Nat) : Int) by omega]; exact ix_int (by omega)) ?_
    (repeat (walk_at "g"))
    refine opd_ixT (d := .int c.lo) rfl ?_
    (repeat (walk_at "g"))
    rw [max_if]
    unfold leM at p
    rw [if_pos h0] at p
    exact ⟨_, rfl, p⟩
  · have h0 : ¬ 0 < k := by simpa using hb
    (repeat (walk_at "g"))
    unfold leM at p
    rw [if_neg h0] at p
    exact ⟨_, rfl, p⟩
end
end Go
namespace Go
open PySem PySem.Spec PyProof.Rows L2 SetMix ZipE
local macro_rules | `(tactic| walk_at "g") => `(tactic| first
  | ((with_reducible refine gd_var (d := ?dd) ?hv ?_); (case hv => exact rfl))
  | ((with_reducible refine gd_ixScr (ns := ?ns) ?hv ?_); (case hv => exact rfl))
  | ((with_reducible refine gd_ixCel (j := ?jj) ?hv ?_); (case hv => exact rfl))
  | ((with_reducible refine gd_lenScr (ns := ?ns) ?hv ?_); (case hv => exact rfl))
  | with_reducible first
    | refine gs_seq ?_ | refine gs_next ?_ | refine gs_ret ?_ | refine gs_asgD ?_ | refine gs_if ?_
    | refine gt_test ?_ | refine gt_B ?_ | refine gt_and ?_ | refine gt_or ?_ | refine gt_not ?_ | refine gt_yes ?_
    | refine gd_int ?_ | refine gd_str ?_ | refine gd_bl ?_ | refine gd_non ?_
    | refine gd_op ?_ | refine gd_tup ?_ | refine gd_lst ?_
    | refine gd_cb (r := rLenA _) ?_ | refine gd_cb (r := rTupleA _) ?_ | refine gd_cb (r := rAbsA) ?_ | refine gd_cb (r := rMax2A) ?_ | refine gd_cb (r := rMin2A) ?_ | refine gd_cb (r := rIntA) ?_ | refine gd_cb (r := rAny _) ?_ | refine gd_cb (r := rAll _) ?_ | refine gd_cb (r := rDictP _) ?_ | refine gd_cb (r := rMax _) ?_ | refine gd_cb (r := rMin _) ?_
    | refine gs_cons ?_ | refine gs_nil ?_ | refine gd_dget ?_
    | refine gd_and ?_ | refine gd_or ?_ | refine gd_not ?_
    | refine opd_addI ?_ | refine opd_sub ?_ | refine opd_lt ?_ | refine opd_le ?_ | refine opd_gt ?_ | refine opd_ge ?_
    | refine opd_lenL ?_ | refine opd_lenT ?_ | refine opd_tupleL ?_ | refine opd_tupleT ?_ | refine opd_max2 ?_ | refine opd_min2 ?_ | refine opd_abs ?_ | refine opd_intB ?_
    | refine Exists.intro _ (And.intro rfl ?_))
theorem zip2_get {as bs : List D} {i : Nat} {d : D} (h : (zipD2 as bs)[i]? = some d) : ∃ a b, as[i]? = some a ∧ bs[i]? = some b ∧ d = .tuple [a, b] := by
  unfold zipD2 at h
  rw [List.getElem?_map] at h
  cases z : (as.zip bs)[i]? with
  | none => rw [z] at h; cases h
  | some p =>
    rw [z] at h
    obtain ⟨h1, h2⟩ := List.getElem?_zip_eq_some.mp z
    exact ⟨_, _, h1, h2, (Option.some.inj h).symm⟩
theorem zip2_len (as bs : List D) : (zipD2 as bs).length = min as.length bs.length := by unfold zipD2; simp
theorem zip2_map {α : Type} (xs : List α) (f h : α → D) : zipD2 (xs.map f) (xs.map h) = xs.map fun x => .tuple [f x, h x] := by
  unfold zipD2
  rw [List.zip_map', List.map_map]
  rfl
theorem zip3_map {α : Type} (xs : List α) (f h l : α → D) : zipD3 (xs.map f) (xs.map h) (xs.map l) = xs.map fun x => .tuple [f x, h x, l x] := by
  unfold zipD3
  rw [List.zip_map', List.zip_map', List.map_map]
  rfl
theorem map_range {α : Type} [Inhabited α] (f : α → D) (xs : List α) : xs.map f = (List.range xs.length).map fun k => f (xs.getD k default) := by
  refine List.ext_getElem? fun i => ?_
  rw [List.getElem?_map, List.getElem?_map]
  by_cases h : i < xs.length
  · rw [List.getElem?_range h]
    show Option.map f xs[i]? = some (f (xs.getD i default))
    rw [List.getD_eq_getElem?_getD, List.getElem?_eq_getElem h]
    rfl
  · rw [List.getElem?_eq_none (by omega), List.getElem?_eq_none (by rw [List.length_range]; omega)]
    rfl
theorem lean_len {cs : List Cs} {pl : List Rw} (k : Nat) : (leanAt cs pl k).length ≤ k := by
  have := List.length_filter_le (fun a => rmAt pl a == rmAt pl k || share (csAt cs pl a) (csAt cs pl k)) (List.range k)
  rw [List.length_range] at this
  exact this
def encLE (cs : List Cs) (pl : List Rw) (bs : List (List Int)) (c : Nat) (p : Nat) : D := .int (leM (csAt cs pl p) (bs.getD p []) c)
theorem ix_rows {bs : List (List Int)} {a : Nat} (h : a < bs.length) : atI (bs.map encL) (a : Int) = some (encL (bs.getD a [])) := ix_map encL h
theorem rw_len (cs : List Cs) (pl : List Rw) (m k : Nat) : (rwM cs pl m k).length = m + 1 := by
  unfold rwM
  rw [List.length_map, List.length_range]
section
variable {K : PySem.W.Frag} {wd : PySem.World} {n : Nat} {ρ ts : List SV} {g : List Cell}
theorem mg2 {a b : Nat} : MonG (gTup K 2 (gCons (gName a) (gCons (gName b) gNil))) := mg_tup (mg_cons mg_name (mg_cons mg_name mg_nil))
theorem ij2 {js : List Nat} {a b : Nat} (ha : a ∈ js) (hb : b ∈ js) : InJs js (gTup K 2 (gCons (gName a) (gCons (gName b) gNil))) := ij_tup (ij_cons mg_name (ij_name ha) (ij_cons mg_name (ij_name hb) ij_nil))
def tlatest_begins (K : PySem.W.Frag) (wd : PySem.World) : TS := (tSeq (tAsg (tCall (spOf K Rin_order) [] E0 (tCons (tVar 0) (tCons (tVar 1) tNil))) (gName 3)) (tSeq (tAsg (tLst tNil) (gName 4)) (tSeq (tFor (iZip2 K (tCons (tVar 1) (tCons (tCall (spOf K Rleans) [] E0 (tCons (tVar 0) (tCons (tVar 1) tNil))) tNil))) (gTup K 2 (gCons (gTup K 3 (gCons (gName 8) (gCons (gName 9) (gCons (gName 10) gNil)))) (gCons (gName 5) gNil))) (tSeq (tAsg (tLst tNil) (gName 6)) (tSeq (tFor (iRng1 (tCons (tOp (rAddA K) (tCall (spOf K Rmost_over) [] E0 (tCons (tVar 2) tNil)) (tC (.int 1))) tNil)) (gName 7) (tSeq (tAsg (tLc (iTup K (tVar 5)) (gName 12) tYes (tCall (spOf K Rlatest_end) [] E0 (tCons (tOp (rIx K) (tVar 3) (tVar 12)) (tCons (tOp (rIx K) (tVar 4) (tVar 12)) (tCons (tVar 7) tNil)))) [12]) (gName 11)) (tDrop (tBM K "list" rAppend (tVar 6) (tCons (tCB (rMax K) (tCons (tOp (rAddA K) (tLst (tCons (tVar 8) tNil)) (tVar 11)) tNil)) tNil))))) (tDrop (tBM K "list" rAppend (tVar 4) (tCons (tVar 6) tNil)))))) (tRet (tVar 4)))))
theorem go_latest_begins (ss : List SV) (g : List Cell) (post : D → List Cell → Prop) (h : Rlatest_begins ss g post) : GoS K g.length (tlatest_begins K wd) (ss ++ List.replicate (13 - ss.length) .no) g (KF g.length post) := by
  obtain ⟨cs, pl, m, rfl, rfl, ok, okl, hm, p⟩ := h
  unfold tlatest_begins
  have l8 := ok.lp
  refine gs_seq (gs_asgD (gd_call ?_))
  (repeat (walk_at "g"))
  refine ⟨cs, pl, rfl, rfl, ok, ?_⟩
  refine gs_seq (gs_asg (ge_lstC (gs_nil ⟨by decide, ?_⟩)))
  refine gs_seq (gs_for (gi_zip2 (gs_cons (gd_var rfl (gs_cons (gd_call ?_))))))
  (repeat (walk_at "g"))
  refine ⟨cs, pl, rfl, rfl, ok, okl, gs_nil ⟨_, _, _, _, rfl, .inr rfl, .inl rfl, ?_⟩⟩
  refine ⟨fun i ρ g => ∃ (x5 x6 x7 x8 x9 x10 x11 : SV), ρ = [.d (encCs cs), .d (encP pl), .d (.int (m : Int)), .d (.list ((planned cs pl).map encC)), .c 0, x5, x6, x7, x8, x9, x10, x11, .no] ∧ g = [some ((lbM cs pl m i).map encL)], ⟨.no, .no, .no, .no, .no, .no, .no, rfl, rfl⟩, fun i d ρ' g' hi ⟨x5, x6, x7, x8, x9, x10, x11, e1, e2⟩ _ => ?_, fun ρ' g' ⟨x5, x6, x7, x8, x9, x10, x11, e1, e2⟩ _ => ?_⟩
  · subst e1 e2
    obtain ⟨da, db, ha, hb, rfl⟩ := zip2_get hi
    obtain ⟨r, hr, rfl⟩ := at_map ha
    obtain ⟨ns, hns, rfl⟩ := at_map hb
    have li : i < pl.length := (List.getElem?_eq_some_iff.mp hr).1
    have er : pl.getD i default = r := by rw [List.getD_eq_getElem?_getD, hr]; rfl
    have en : ns = leanAt cs pl i := by
      unfold leansM at hns
      rw [List.getElem?_map, List.getElem?_range li] at hns
      exact (Option.some.inj hns).symm
    subst en
    have ll := lean_len (cs := cs) (pl := pl) i
    refine gg_tup rfl (ggs_cons (gg3 (ggs_cons (gg_name (ggs_nil ?_)))))
    refine gs_seq (gs_asg (ge_lstC (gs_nil ⟨by decide, ?_⟩)))
    refine gs_seq (gs_for (gi_rng1 (gs_cons (gd_op (gd_call ?_)))))
    (repeat (walk_at "g"))
    refine ⟨m, rfl, rfl, ?_⟩
    (repeat (walk_at "g"))
    refine ⟨by omega, by omega, ?_⟩
    rw [show ((m : Int) + 1).toNat = m + 1 by omega]
    refine ⟨fun c ρ g => ∃ (x7 x11 : SV), ρ = [.d (encCs cs), .d (encP pl), .d (.int (m : Int)), .d (.list ((planned cs pl).map encC)), .c 0, .d (encN (leanAt cs pl i)), .c 1, x7, .d (.int r.st), .d (.str r.nm), .d (.int r.rm), x11, .no] ∧ g = [some ((lbM cs pl m i).map encL), some (((List.range c).map (rowM cs pl (lbM cs pl m i) i)).map PyData.int)], ⟨x7, x11, rfl, rfl⟩, fun c d ρ' g' hi ⟨x7, x11, e1, e2⟩ _ => ?_, fun ρ' g' ⟨x7, x11, e1, e2⟩ _ => ?_⟩
    · subst e1 e2
      obtain ⟨rfl, lc⟩ := rng_at hi
      refine gg_name (gs_seq (gs_asgD ?_))
      refine gd_mapT encI (encLE cs pl (lbM cs pl m i) c) mg_name (ij_name (by simp)) (gi_tup (gd_var rfl ⟨_, rfl, leanAt cs pl i, rfl, by omega, fun j a ha => gg_name (gd_call ?_), ?_⟩))
      · have lt : a < i := leanAt_lt (List.mem_of_getElem? ha)
        (repeat (walk_at "g"))
        refine opd_ixL (ix_planned (show a < pl.length by omega)) ?_
        (repeat (walk_at "g"))
        refine ⟨_, _, _, rfl, rfl, ix_rows (by rw [lbM_len]; exact lt), ?_⟩
        (repeat (walk_at "g"))
        refine ⟨csAt cs pl a, _, (lbM cs pl m i).getD a [], c, rfl, rfl, .inl rfl, ?_, rfl, rfl⟩
        rw [lbM_at cs pl m i a lt, rw_len]
        exact lc
      · have ee : (leanAt cs pl i).map (encLE cs pl (lbM cs pl m i) c) = ((leanAt cs pl i).map fun p => leM (csAt cs pl p) ((lbM cs pl m i).getD p []) c).map PyData.int := by
          rw [List.map_map]
          rfl
        rw [ee]
        refine gs_app (ge_var rfl (fun z => nomatch z) ⟨1, _, rfl, rfl, ?_⟩)
        refine gd_cb (r := rMax K) (gs_cons (gd_op (gd_lst (gs_cons (gd_var rfl (gs_nil ⟨by show 1 ≤ 100000; decide, ?_⟩))))))
        refine gd_var rfl (opd_addL (by rw [List.length_map, List.length_map]; show 1 + _ ≤ 100000; omega) (gs_nil (opd_maxL (ns := r.st :: (leanAt cs pl i).map fun p => leM (csAt cs pl p) ((lbM cs pl m i).getD p []) c) (by rw [List.length_cons]; omega) fun b hb1 hb2 => ?_)))
        have eb := bgn_max hb1 hb2
        refine ⟨_, rfl, by rw [List.length_map, List.length_map, List.length_range]; omega, _, _, rfl, ?_⟩
        show [some ((lbM cs pl m i).map encL), some (((List.range c).map (rowM cs pl (lbM cs pl m i) i)).map PyData.int ++ [PyData.int b])] = _
        rw [range_snoc, List.map_append, eb]
        unfold rowM stAt
        rw [er]
        rfl
    · subst e1 e2
      rw [rngD_len]
      refine gs_app (ge_var rfl (fun z => nomatch z) ⟨0, _, rfl, rfl, gd_give (ge_var rfl (fun z => nomatch z) ⟨1, _, rfl, Nat.le_refl 1, rfl, _, rfl, ?_, _, _, _, _, _, _, _, rfl, ?_⟩)⟩)
      · rw [List.length_map, lbM_len]; omega
      · show [some ((lbM cs pl m i).map encL ++ [_])] = [some ((lbM cs pl m (i + 1)).map encL)]
        rw [show lbM cs pl m (i + 1) = lbM cs pl m i ++ [(List.range (m + 1)).map (rowM cs pl (lbM cs pl m i) i)] from rfl, List.map_append]
        rfl
  · subst e1 e2
    have lz : (zipD2 (pl.map encR) ((leansM cs pl).map encN)).length = pl.length := by
      rw [zip2_len, List.length_map, List.length_map]
      unfold leansM
      rw [List.length_map, List.length_range]
      omega
    rw [lz]
    refine gs_ret (gd_give (ge_var rfl (fun z => nomatch z) ⟨0, _, rfl, Nat.zero_le _, rfl, _, rfl, ?_⟩))
    exact p
def tlatest (K : PySem.W.Frag) (wd : PySem.World) : TS := (tSeq (tAsg (tCall (spOf K Rin_order) [] E0 (tCons (tVar 0) (tCons (tVar 1) tNil))) (gName 3)) (tSeq (tAsg (tCall (spOf K Rlatest_begins) [] E0 (tCons (tVar 0) (tCons (tVar 1) (tCons (tVar 2) tNil)))) (gName 4)) (tSeq (tAsg (tCall (spOf K Rmost_over) [] E0 (tCons (tVar 2) tNil)) (gName 5)) (tRet (tLc (iZip2 K (tCons (tVar 3) (tCons (tVar 4) tNil))) (gTup K 2 (gCons (gName 6) (gCons (gName 7) gNil))) tYes (tTup (tCons (tOp (rIx K) (tVar 6) (tC (.int 0))) (tCons (tOp (rIx K) (tVar 7) (tVar 5)) (tCons (tCall (spOf K Rlatest_end) [] E0 (tCons (tVar 6) (tCons (tVar 7) (tCons (tVar 5) tNil)))) tNil)))) [6, 7])))))
theorem planned_range (cs : List Cs) (pl : List Rw) : (planned cs pl).map encC = (List.range pl.length).map fun k => encC (csAt cs pl k) := by
  rw [planned_map, map_range]
  rfl
theorem rows_range (cs : List Cs) (pl : List Rw) (m : Nat) : (lbAll cs pl m).map encL = (List.range pl.length).map fun k => encL (rwM cs pl m k) := by
  rw [lbAll_eq, List.map_map]
  rfl
def encCR (cs : List Cs) (pl : List Rw) (m k : Nat) : D := .tuple [encC (csAt cs pl k), encL (rwM cs pl m k)]
def latT (cs : List Cs) (pl : List Rw) (m k : Nat) : D := encT (nmAt pl k, lbV cs pl m k m, leV cs pl m k m)
theorem latT_eq (cs : List Cs) (pl : List Rw) (m : Nat) : (List.range pl.length).map (latT cs pl m) = (latM cs pl m).map encT := by
  unfold latM
  rw [List.map_map]
  rfl
theorem range_get {n i k : Nat} (h : (List.range n)[i]? = some k) : k < n := List.mem_range.mp (List.mem_of_getElem? h)
theorem go_latest (ss : List SV) (g : List Cell) (post : D → List Cell → Prop) (h : Rlatest ss g post) : GoS K g.length (tlatest K wd) (ss ++ List.replicate (8 - ss.length) .no) g (KF g.length post) := by
  obtain ⟨cs, pl, m, rfl, rfl, ok, okl, hm, p⟩ := h
  unfold tlatest
  have l8 := ok.lp
  refine gs_seq (gs_asgD (gd_call ?_))
  (repeat (walk_at "g"))
  refine ⟨cs, pl, rfl, rfl, ok, ?_⟩
  refine gs_seq (gs_asgD (gd_call ?_))
  (repeat (walk_at "g"))
  refine ⟨cs, pl, m, rfl, rfl, ok, okl, hm, ?_⟩
  refine gs_seq (gs_asgD (gd_call ?_))
  (repeat (walk_at "g"))
  refine ⟨m, rfl, rfl, ?_⟩
  refine gs_ret (gd_mapT (encCR cs pl m) (latT cs pl m) mg2 (ij2 (by simp) (by simp)) (gi_zip2 (gs_cons (gd_var rfl (gs_cons (gd_var rfl (gs_nil ⟨_, _, _, _, rfl, .inl rfl, .inl rfl, List.range pl.length, ?_, by rw [List.length_range]; omega, fun i k hk => gg2 ?_, ?_⟩)))))))
  · rw [planned_range, rows_range, zip2_map]
    rfl
  · have lk := range_get hk
    (repeat (walk_at "g"))
    refine opd_ixT (d := .str (csAt cs pl k).nm) rfl ?_
    (repeat (walk_at "g"))
    refine opd_ixL (ix_int (bs := rwM cs pl m k) (by rw [rw_len]; omega)) ?_
    refine gs_cons (gd_call ?_)
    (repeat (walk_at "g"))
    refine ⟨csAt cs pl k, _, rwM cs pl m k, m, rfl, rfl, .inl rfl, by rw [rw_len]; omega, ?_⟩
    (repeat (walk_at "g"))
    refine ⟨by show 3 ≤ 100000; decide, rfl, ?_⟩
    have en : (csAt cs pl k).nm = nmAt pl k := (ok.get (getD_mem lk)).2
    rw [en]
    rfl
  · rw [latT_eq]
    exact ⟨_, rfl, p⟩
end
end Go
namespace Go
open PySem PySem.Spec PyProof.Rows L2 SetMix ZipE
local macro_rules | `(tactic| walk_at "g") => `(tactic| first
  | ((with_reducible refine gd_var (d := ?dd) ?hv ?_); (case hv => exact rfl))
  | ((with_reducible refine gd_ixScr (ns := ?ns) ?hv ?_); (case hv => exact rfl))
  | ((with_reducible refine gd_ixCel (j := ?jj) ?hv ?_); (case hv => exact rfl))
  | ((with_reducible refine gd_lenScr (ns := ?ns) ?hv ?_); (case hv => exact rfl))
  | with_reducible first
    | refine gs_seq ?_ | refine gs_next ?_ | refine gs_ret ?_ | refine gs_asgD ?_ | refine gs_if ?_
    | refine gt_test ?_ | refine gt_B ?_ | refine gt_and ?_ | refine gt_or ?_ | refine gt_not ?_ | refine gt_yes ?_
    | refine gd_int ?_ | refine gd_str ?_ | refine gd_bl ?_ | refine gd_non ?_
    | refine gd_op ?_ | refine gd_tup ?_ | refine gd_lst ?_
    | refine gd_cb (r := rLenA _) ?_ | refine gd_cb (r := rTupleA _) ?_ | refine gd_cb (r := rAbsA) ?_ | refine gd_cb (r := rMax2A) ?_ | refine gd_cb (r := rMin2A) ?_ | refine gd_cb (r := rIntA) ?_ | refine gd_cb (r := rAny _) ?_ | refine gd_cb (r := rAll _) ?_ | refine gd_cb (r := rDictP _) ?_ | refine gd_cb (r := rMax _) ?_ | refine gd_cb (r := rMin _) ?_
    | refine gs_cons ?_ | refine gs_nil ?_ | refine gd_dget ?_
    | refine gd_and ?_ | refine gd_or ?_ | refine gd_not ?_
    | refine opd_addI ?_ | refine opd_sub ?_ | refine opd_lt ?_ | refine opd_le ?_ | refine opd_gt ?_ | refine opd_ge ?_
    | refine opd_lenL ?_ | refine opd_lenT ?_ | refine opd_tupleL ?_ | refine opd_tupleT ?_ | refine opd_max2 ?_ | refine opd_min2 ?_ | refine opd_abs ?_ | refine opd_intB ?_
    | refine Exists.intro _ (And.intro rfl ?_))
def encS1 (i : Nat) (S : List Nat) : D := encN (S ++ [i])
theorem lots_size {m : Nat} : ∀ {k j : Nat} {S : List Nat}, (lotsM m k)[j]? = some S → S.length ≤ k := by
  have h : ∀ (k : Nat) (S : List Nat), S ∈ lotsM m k → S.length ≤ k := by
    intro k
    induction k with
    | zero => intro S h; have : S = [] := by simpa [lotsM] using h
              subst this; exact Nat.le_refl _
    | succ k ih =>
      intro S h
      unfold lotsM at h
      rcases List.mem_append.mp h with z | z
      · have := ih S z; omega
      · obtain ⟨l, hl, e⟩ := List.mem_map.mp z
        have := ih l (List.mem_filter.mp hl).1
        subst e
        rw [List.length_append]
        show l.length + 1 ≤ k + 1
        omega
  exact fun {_ _ _} hS => h _ _ (List.mem_of_getElem? hS)
theorem flat_ints : ∀ S : List Nat, (S.map encI).all flatD = true
  | [] => rfl
  | _ :: S => by rw [List.map_cons, List.all_cons, flat_ints S]; rfl
theorem any_ints (k : Nat) : ∀ S : List Nat, ((S.map encI).any fun y => PyData.eqv y (.int (k : Int))) = decide (k ∈ S)
  | [] => rfl
  | x :: S => by
    rw [List.map_cons, List.any_cons, any_ints k S]
    have e : PyData.eqv (encI x) (.int (k : Int)) = decide (k = x) := by
      by_cases h : k = x
      · subst h
        rw [decide_eq_true rfl]
        simp [encI, PyData.eqv]
      · rw [decide_eq_false h]
        have : ¬ (x : Int) = (k : Int) := by omega
        simp [encI, PyData.eqv, this]
    rw [e]
    by_cases h : k = x
    · subst h; simp
    · simp [h]
theorem enum_range (pl : List Rw) : enumD (pl.map encR) = (List.range pl.length).map fun k => .tuple [.int (k : Nat), encR (pl.getD k default)] := by
  unfold enumD
  rw [List.length_map, map_range encR pl]
  have : (List.range pl.length).zip ((List.range pl.length).map fun k => encR (pl.getD k default)) = (List.range pl.length).map fun k => (k, encR (pl.getD k default)) := by
    conv => lhs; arg 1; rw [← List.map_id (List.range pl.length)]
    rw [List.zip_map']
    rfl
  rw [this, List.map_map]
  rfl
def encKR (pl : List Rw) (k : Nat) : D := .tuple [.int (k : Nat), encR (pl.getD k default)]
def encMn (cs : List Cs) (pl : List Rw) (S : List Nat) (k : Nat) : D := .int (minAt cs pl S k)
section
variable {K : PySem.W.Frag} {wd : PySem.World} {n : Nat} {ρ ts : List SV} {g : List Cell}
def t_law_lots (K : PySem.W.Frag) (wd : PySem.World) : TS := (tSeq (tAsg (tLst (tCons (tTup tNil) tNil)) (gName 2)) (tSeq (tFor (iRng1 (tCons (tVar 0) tNil)) (gName 3) (tAsg (tOp (rAddA K) (tVar 2) (tLc (iList K (tVar 2)) (gName 4) (tTest (tOp (rI0 fun i j => V.bl (decide (i < j))) (tCB (rLenA K) (tCons (tVar 4) tNil)) (tVar 1))) (tOp (rAddA K) (tVar 4) (tTup (tCons (tVar 3) tNil))) [4])) (gName 2))) (tRet (tVar 2))))
theorem go_law_lots (ss : List SV) (g : List Cell) (post : D → List Cell → Prop) (h : R_law_lots ss g post) : GoS K g.length (t_law_lots K wd) (ss ++ List.replicate (5 - ss.length) .no) g (KF g.length post) := by
  obtain ⟨n, m, rfl, rfl, hn, p⟩ := h
  unfold t_law_lots
  refine gs_seq (gs_asgD (gd_lst (gs_cons (gd_tup (gs_nil ⟨by decide, gs_nil ⟨by decide, ?_⟩⟩)))))
  refine gs_seq (gs_for (gi_rng1 (gs_cons (gd_var rfl (gs_nil ⟨_, rfl, by omega, by omega, ?_⟩)))))
  rw [Int.toNat_natCast]
  refine ⟨fun i ρ g => ∃ (x3 : SV), ρ = [.d (.int (n : Int)), .d (.int (m : Int)), .d (.list ((lotsM m i).map encN)), x3, .no] ∧ g = [], ⟨.no, rfl, rfl⟩, fun i d ρ' g' hi ⟨x3, e1, e2⟩ _ => ?_, fun ρ' g' ⟨x3, e1, e2⟩ _ => ?_⟩
  · subst e1 e2
    obtain ⟨rfl, li⟩ := rng_at hi
    have l1 : (lotsM m i).length ≤ 256 := Nat.le_trans (lots_len m i) (Nat.le_trans (Nat.pow_le_pow_right (by decide) (show i ≤ 8 by omega)) (by decide))
    refine gg_name (gs_asgD (gd_op (gd_var rfl ?_)))
    refine gd_filT encN (encS1 i) (fun S => decide (S.length < m)) mg_name (ij_name (by simp)) (gi_list (gd_var rfl ⟨_, rfl, lotsM m i, rfl, by omega, fun j S hS => gg_name ?_, ?_⟩))
    · have ls : S.length ≤ 8 ∨ True := .inr trivial
      refine gt_test (gd_op (gd_cb (r := rLenA K) (gs_cons (gd_var rfl (gs_nil (opd_lenT (ds := S.map encI) (gd_var rfl (opd_lt ⟨_, rfl, rfl, ?_, ?_⟩))))))))
      · exact decide_eq_decide.mpr (by rw [List.length_map]; omega)
      · refine gd_op (gd_var rfl (gd_tup (gs_cons (gd_var rfl (gs_nil ⟨by show 1 ≤ 100000; decide, opd_addT (ds := S.map encI) (es := [.int (i : Int)]) ?_ ⟨rfl, ?_⟩⟩)))))
        · have a := (lots_ok m i S (List.mem_of_getElem? hS))
          have b := lots_size hS
          rw [List.length_map]
          show _ + 1 ≤ 100000
          omega
        · unfold encS1 encN
          rw [List.map_append]
          rfl
    · refine opd_addL ?_ ⟨.d (.int (i : Int)), ?_, rfl⟩
      · rw [List.length_map, List.length_map]
        have := List.length_filter_le (fun S : List Nat => decide (S.length < m)) (lotsM m i)
        omega
      · rw [show lotsM m (i + 1) = lotsM m i ++ ((lotsM m i).filter fun l => decide (l.length < m)).map fun l => l ++ [i] from rfl, List.map_append, List.map_map]
        rfl
  · subst e1 e2
    rw [rngD_len]
    exact gs_ret (gd_var rfl ⟨_, rfl, p⟩)
def t_law_minutes (K : PySem.W.Frag) (wd : PySem.World) : TS := (tSeq (tAsg (tCB (rDictP K) (tCons (tLc (iTup K (tVar 0)) (gName 4) tYes (tTup (tCons (tOp (rIx K) (tVar 4) (tC (.int 0))) (tCons (tVar 4) tNil))) [4]) tNil)) (gName 3)) (tRet (tCB (rTupleA K) (tCons (tLc (iEnum1 K (tCons (tVar 1) tNil)) (gTup K 2 (gCons (gName 5) (gCons (gName 6) gNil))) tYes (tOp (rIx K) (tDGet (tVar 3) (tOp (rIx K) (tVar 6) (tC (.int 1)))) (tIf (tTest (tOp (rIn K false) (tVar 5) (tVar 2))) (tC (.int 2)) (tC (.int 1)))) [5, 6]) tNil))))
theorem go_law_minutes (ss : List SV) (g : List Cell) (post : D → List Cell → Prop) (h : R_law_minutes ss g post) : GoS K g.length (t_law_minutes K wd) (ss ++ List.replicate (7 - ss.length) .no) g (KF g.length post) := by
  obtain ⟨cs, pl, S, d, rfl, rfl, hd, ok, p⟩ := h
  unfold t_law_minutes
  have l8 := ok.lp
  refine gs_seq (gs_asgD (gd_cb (r := rDictP K) (gs_cons (gd_mapT encC encCt mg_name (ij_name (by simp)) (gi_tup (gd_var rfl ⟨_, rfl, cs, rfl, by have := ok.lc; omega, fun i c hc => gg_name ?_, ?_⟩))))))
  · (repeat (walk_at "g"))
    refine opd_ixT (d := .str c.nm) rfl ?_
    (repeat (walk_at "g"))
    exact ⟨by show 2 ≤ 100000; decide, rfl, rfl⟩
  rw [enc_pr]
  refine gs_nil (opd_dict ?_)
  refine gs_ret (gd_cb (r := rTupleA K) (gs_cons (gd_mapT (encKR pl) (encMn cs pl S) mg2 (ij2 (by simp) (by simp)) (gi_enum (gs_cons (gd_var rfl (gs_nil ⟨_, _, rfl, .inr rfl, List.range pl.length, enum_range pl, by rw [List.length_range]; omega, fun i k hk => gg2 ?_, ?_⟩)))))))
  · have lk := range_get hk
    (repeat (walk_at "g"))
    refine opd_ixT (d := .str (nmAt pl k)) rfl ⟨.inr (nmAt pl k), _, rfl, lk_dictC ok (getD_mem lk), ?_⟩
    refine gd_if (gt_test (gd_op (gd_var rfl (gd_var rfl (opd_inLT hd rfl (flat_ints S) ?_)))))
    refine ⟨_, rfl, fun hb => ?_, fun hb => ?_⟩
    · have hin : k ∈ S := by
        have : decide (k ∈ S) = true := by rw [← any_ints]; exact hb
        exact of_decide_eq_true this
      refine gd_int (opd_ixT (d := .int (csAt cs pl k).lo) rfl ⟨rfl, ?_⟩)
      unfold encMn minAt
      rw [if_pos hin]
    · have hin : ¬ k ∈ S := by
        have : decide (k ∈ S) = false := by rw [← any_ints]; exact hb
        exact of_decide_eq_false this
      refine gd_int (opd_ixT (d := .int (csAt cs pl k).us) rfl ⟨rfl, ?_⟩)
      unfold encMn minAt
      rw [if_neg hin]
  · have e : (List.range pl.length).map (encMn cs pl S) = (minsM cs pl S).map PyData.int := by
      unfold minsM
      rw [List.map_map]
      rfl
    rw [e]
    (repeat (walk_at "g"))
    exact ⟨_, rfl, p⟩
end
end Go
namespace Go
open PySem PySem.Spec PyProof.Rows L2 SetMix ZipE
local macro_rules | `(tactic| walk_at "g") => `(tactic| first
  | ((with_reducible refine gd_var (d := ?dd) ?hv ?_); (case hv => exact rfl))
  | ((with_reducible refine gd_ixScr (ns := ?ns) ?hv ?_); (case hv => exact rfl))
  | ((with_reducible refine gd_ixCel (j := ?jj) ?hv ?_); (case hv => exact rfl))
  | ((with_reducible refine gd_lenScr (ns := ?ns) ?hv ?_); (case hv => exact rfl))
  | with_reducible first
    | refine gs_seq ?_ | refine gs_next ?_ | refine gs_ret ?_ | refine gs_asgD ?_ | refine gs_if ?_
    | refine gt_test ?_ | refine gt_B ?_ | refine gt_and ?_ | refine gt_or ?_ | refine gt_not ?_ | refine gt_yes ?_
    | refine gd_int ?_ | refine gd_str ?_ | refine gd_bl ?_ | refine gd_non ?_
    | refine gd_op ?_ | refine gd_tup ?_ | refine gd_lst ?_
    | refine gd_cb (r := rLenA _) ?_ | refine gd_cb (r := rTupleA _) ?_ | refine gd_cb (r := rAbsA) ?_ | refine gd_cb (r := rMax2A) ?_ | refine gd_cb (r := rMin2A) ?_ | refine gd_cb (r := rIntA) ?_ | refine gd_cb (r := rAny _) ?_ | refine gd_cb (r := rAll _) ?_ | refine gd_cb (r := rDictP _) ?_ | refine gd_cb (r := rMax _) ?_ | refine gd_cb (r := rMin _) ?_
    | refine gs_cons ?_ | refine gs_nil ?_ | refine gd_dget ?_
    | refine gd_and ?_ | refine gd_or ?_ | refine gd_not ?_
    | refine opd_addI ?_ | refine opd_sub ?_ | refine opd_lt ?_ | refine opd_le ?_ | refine opd_gt ?_ | refine opd_ge ?_
    | refine opd_lenL ?_ | refine opd_lenT ?_ | refine opd_tupleL ?_ | refine opd_tupleT ?_ | refine opd_max2 ?_ | refine opd_min2 ?_ | refine opd_abs ?_ | refine opd_intB ?_
    | refine Exists.intro _ (And.intro rfl ?_))
/-! ### the least of a tuple of whole numbers -/
section
variable {prog : Program} {w : PySem.World} {A : Around} {E : Value → Shared → Prop} {s : Shared} {l : Addr} {its : List Value} {ns : List Int} {Q : Value → Shared → Prop}
theorem least_tup (hh : A.handled = none) (hl : s.heap.IsTuple l its.toArray) (hi : IntsAre its ns) (hne : 0 < ns.length)
    (h : ∀ h' tk M t', (∀ b o, s.heap.get? b = some o → h'.get? b = some o) → M ∈ ns → (∀ a, a ∈ ns → M ≤ a) → Q (.int M t') { s with heap := h', toks := tk }) :
    wpAny (model prog w) A (call (.builtin "min") [.ref l]) Q E s := by
  obtain ⟨xs, ex⟩ := hi.allInts.items
  have hn := (congrArg (fun q : Array Value => numsOf q.toList) ex).symm.trans hi.numsOf
  simp only [nums_intItems] at hn
  subst hn
  rw [ex] at hl
  have hs0 : 0 < xs.size := by simpa using hne
  have hlt : l < s.heap.objs.size := by obtain ⟨_, e, _⟩ := hl; exact Heap.lt_size e
  refine call_min_walk (wpAny_pyIter_tuple hl ?_)
  refine ⟨s.heap.objs.size, [s.heap.objs.size, l], [s.heap.objs.size], _, _, _, _, rfl, Walks.tuple (A := A.in1) hh _ l (Nat.ne_of_lt hlt) (intItems xs), ⟨⟨_, Heap.get?_push_size _ rfl, rfl, rfl⟩, hl.push _⟩, fun b hb => ?_, by simpa [intItems] using hs0,
    CmpOf.ints_lt (numAt xs) (fun _ _ => intItems_at), fun v h' tk hP hk => ?_⟩
  · have hb2 : b = s.heap.objs.size ∨ b = l := by simpa using hb
    show b < (s.heap.push _).objs.size
    rw [Heap.size_push]
    exact hb2.elim (fun e => by rw [e]; exact Nat.lt_succ_self _) fun e => by rw [e]; exact Nat.lt_succ_of_lt hlt
  · obtain ⟨t, rfl⟩ := intItems_at hP
    obtain ⟨_, least⟩ := argBest_lt (numAt xs) (xs.size - 1)
    have sz : (intItems xs).size = xs.size := by simp [intItems]
    rw [sz]
    have bd := (argBest_lt (numAt xs) (xs.size - 1)).1
    refine h h' tk _ t (fun b o e => hk b o (fun m => ?_) (Heap.get?_push_of_some _ e)) ?_ fun a ha => ?_
    · have := Heap.lt_size e
      rw [List.mem_singleton] at m
      rw [m] at this
      exact Nat.lt_irrefl _ this
    · rw [numAt_eq]
      exact PySem.getD_mem (by rw [List.length_map, Array.length_toList]; omega)
    · obtain ⟨j, hj, rfl⟩ := mem_getD ha
      rw [List.length_map, Array.length_toList] at hj
      rw [← numAt_eq]
      exact least j (by omega)
end
section
variable {X : Cx}
def rMinT (K : PySem.W.Frag) : List V → Hp → VK → Prop := fun vs H Q => ∃ (a : Addr) (ns : List Int), vs = [V.ref a] ∧ SqT K H a (ns.map V.int) ∧ 0 < ns.length ∧ ∀ m ∈ ns, (∀ y ∈ ns, m ≤ y) → Q (.int m) H
theorem cr_minT (hc : X.calm = true) : CallR X (.builtin "min") (rMinT X.K) := fun pins s σ H vs us Q I r ⟨a, ns, e, hs, hne, q⟩ => by
  subst e
  obtain ⟨its, rv, hl, _⟩ := I.tuple hs
  rw [Vals.ref1 r]
  exact least_tup (I.ok.hd hc) hl rv.ints hne fun h' tk m t' hk h1 h2 => ⟨.int _, H, I.kept hk, ⟨_, rfl⟩, q m h1 h2⟩
def rMinS (K : PySem.W.Frag) : List V → Hp → VK → Prop := fun xs H Q => rMin K xs H Q ∨ rMinT K xs H Q
theorem cr_minS (hc : X.calm = true) : CallR X (.builtin "min") (rMinS X.K) := CallR.or (cr_min hc) (cr_minT hc)
def rIsNB : R2 := fun x y H Q => ∃ a b, x = .bl a ∧ y = .bl b ∧ Q (.bl (!decide (a = b))) H
end
section
variable {K : PySem.W.Frag} {wd : PySem.World} {n : Nat} {ρ ts : List SV} {g : List Cell}
theorem ints_isT {I : Hp} : ∀ {xs : List V} {ns : List Int}, IsAll K I xs (ns.map PyData.int) → xs = ns.map V.int
  | _, [], .nil => rfl
  | _, _ :: _, .cons i t => by rw [is_int i, ints_isT t]; rfl
theorem opd_minT {ns : List Int} {post : D → Prop} (h0 : 0 < ns.length) (p : ∀ m ∈ ns, (∀ y ∈ ns, m ≤ y) → post (.int m)) : OpD K (rMinS K) [.tuple (ns.map PyData.int)] post := fun I H ws ex hw Q q => by
  cases hw with
  | cons i t =>
    cases t
    obtain ⟨a, xs, rfl, hs, ha⟩ := is_tup i
    rw [ints_isT ha] at hs
    exact .inr ⟨a, ns, rfl, Evl.ex_t ex hs, h0, fun m h1 h2 => out0 ex q (.int m) (p m h1 h2)⟩
theorem opd_isNB {a b : Bool} {post : D → Prop} (p : post (.bool (!decide (a = b)))) : OpD K (un2 rIsNB) [.bool a, .bool b] post := fun I H ws ex hw Q q => by
  obtain ⟨v, w, rfl, i1, i2⟩ := all2 hw
  cases is_bl i1
  cases is_bl i2
  exact ⟨_, _, rfl, a, b, rfl, rfl, out0 ex q (.bl _) p⟩
theorem gd_chain {r r' : R2} {ta tb tc : TE} {post : D → List Cell → Prop} (h : GoD K n ta ρ ts g fun d1 g1 => GoD K n tb ρ (.d d1 :: ts) g1 fun d2 g2 => OpD K (un2 r) [d1, d2] fun d => ∃ b, d = .bool b ∧ (b = true → GoD K n tc ρ (.d d2 :: ts) g2 fun d3 g3 => OpD K (un2 r') [d2, d3] fun d' => post d' g3) ∧ (b = false → post (.bool false) g2)) : GoD K n (tChain r r' ta tb tc) ρ ts g post := by
  intro I0 H0 bs σ vs H hn w Q q
  refine h I0 H0 bs σ vs H hn w _ fun x H1 s1 g1 w1 ⟨d1, e1, p1⟩ => ?_
  subst e1
  refine p1 I0 H0 bs σ _ H1 hn w1 _ fun y H2 s2 g2 ⟨I, ls, w2⟩ ⟨d2, e2, p2⟩ => ?_
  subst e2
  obtain ⟨w3, r2⟩ := w2.pop
  obtain ⟨w4, r1⟩ := w3.pop
  cases r1 with
  | d i1 =>
    cases r2 with
    | d i2 =>
      obtain ⟨x', y', e, k⟩ := p2 I H2 [x, y] w2.fr.ih (.cons i1 (.cons i2 .nil)) (fun z H3 => ∃ k, z = .bl k ∧ (if k = true then tc σ H3 fun w' H4 => r' y w' H4 Q else Q (.bl false) H3)) fun v I' H' d f i ⟨b, e, pt, pf⟩ => by
        subst e
        refine ⟨b, is_bl i, ?_⟩
        cases b with
        | false => exact q (.bl false) H' (.d (.bool false)) g2 ⟨I', ls, (w4.step f).push (.d (.bl false))⟩ ⟨_, rfl, pf rfl⟩
        | true =>
          rw [if_pos rfl]
          refine pt rfl I0 H0 bs σ _ H' hn ⟨I', ls, (w4.step f).push (.d (i2.mono f.ii))⟩ _ fun w' H4 s4 g4 ⟨I4, ls4, w5⟩ ⟨d3, e3, p3⟩ => ?_
          subst e3
          obtain ⟨w6, r3⟩ := w5.pop
          obtain ⟨w7, r4⟩ := w6.pop
          cases r3 with
          | d i3 =>
            cases r4 with
            | d i4 =>
              obtain ⟨a, c, e, k⟩ := p3 I4 H4 [y, w'] w5.fr.ih (.cons i4 (.cons i3 .nil)) Q fun v I' H' d f i p => q v H' (.d d) g4 ⟨I', ls4, (w7.step f).push (.d i)⟩ ⟨d, rfl, p⟩
              cases e
              exact k
      cases e
      exact k
end
end Go
namespace Go
open PySem PySem.Spec PyProof.Rows L2 SetMix ZipE
local macro_rules | `(tactic| walk_at "g") => `(tactic| first
  | ((with_reducible refine gd_var (d := ?dd) ?hv ?_); (case hv => exact rfl))
  | ((with_reducible refine gd_ixScr (ns := ?ns) ?hv ?_); (case hv => exact rfl))
  | ((with_reducible refine gd_ixCel (j := ?jj) ?hv ?_); (case hv => exact rfl))
  | ((with_reducible refine gd_lenScr (ns := ?ns) ?hv ?_); (case hv => exact rfl))
  | with_reducible first
    | refine gs_seq ?_ | refine gs_next ?_ | refine gs_ret ?_ | refine gs_asgD ?_ | refine gs_if ?_
    | refine gt_test ?_ | refine gt_B ?_ | refine gt_and ?_ | refine gt_or ?_ | refine gt_not ?_ | refine gt_yes ?_
    | refine gd_int ?_ | refine gd_str ?_ | refine gd_bl ?_ | refine gd_non ?_
    | refine gd_op ?_ | refine gd_tup ?_ | refine gd_lst ?_
    | refine gd_cb (r := rLenA _) ?_ | refine gd_cb (r := rTupleA _) ?_ | refine gd_cb (r := rAbsA) ?_ | refine gd_cb (r := rMax2A) ?_ | refine gd_cb (r := rMin2A) ?_ | refine gd_cb (r := rIntA) ?_ | refine gd_cb (r := rAny _) ?_ | refine gd_cb (r := rAll _) ?_ | refine gd_cb (r := rDictP _) ?_ | refine gd_cb (r := rMax _) ?_ | refine gd_cb (r := rMin _) ?_
    | refine gs_cons ?_ | refine gs_nil ?_ | refine gd_dget ?_
    | refine gd_and ?_ | refine gd_or ?_ | refine gd_not ?_
    | refine opd_addI ?_ | refine opd_sub ?_ | refine opd_lt ?_ | refine opd_le ?_ | refine opd_gt ?_ | refine opd_ge ?_
    | refine opd_lenL ?_ | refine opd_lenT ?_ | refine opd_tupleL ?_ | refine opd_tupleT ?_ | refine opd_max2 ?_ | refine opd_min2 ?_ | refine opd_abs ?_ | refine opd_intB ?_
    | refine Exists.intro _ (And.intro rfl ?_))
section
variable {K : PySem.W.Frag} {wd : PySem.World} {n : Nat} {ρ ts : List SV} {g : List Cell}
/-- a slice of a tuple -/
theorem gd_slT {te : TE} {tl th : TO} {post : D → List Cell → Prop} (h : GoD K n te ρ ts g fun d g1 => ∃ ds, d = .tuple ds ∧ GoO K n tl ρ (.d d :: ts) g1 fun lo g2 => GoO K n th ρ (.d d :: ts) g2 fun hi g3 => post (.tuple (cutD ds lo hi)) g3) : GoD K n (tSl (rSlA K) te tl th) ρ ts g post := by
  intro I0 H0 bs σ vs H hn w Q q
  refine h I0 H0 bs σ vs H hn w _ fun v H1 s g1 w1 ⟨d, e, ds, e2, p1⟩ => ?_
  subst e e2
  refine p1 I0 H0 bs σ _ H1 hn w1 _ fun lo H2 g2 w2 p2 => p2 I0 H0 bs σ _ H2 hn w2 _ fun hi H3 g3 ⟨I, ls, w3⟩ p3 => ?_
  obtain ⟨w4, r⟩ := w3.pop
  cases r with
  | d i =>
    have i' := i
    obtain ⟨a, xs, rfl, hs, ha⟩ := is_tup i
    refine ⟨a, xs, rfl, Evl.ex_t w4.fr.ih hs, fun hw => ?_, fun _ p hp => ?_⟩
    · have e : cutD ds lo hi = ds := by
        unfold cutD
        rw [← ha.length, hw.1, hw.2, ha.length]
        simp
      have p4 : post (.tuple (cutD ds lo hi)) g3 := p3
      rw [e] at p4
      exact q (.ref a) H3 (.d (.tuple ds)) g3 ⟨I, ls, w4.push (.d i')⟩ ⟨_, rfl, p4⟩
    · exact outT (post := fun d => post d g3) (Q := Q) w4.fr.ih (fun v I' H' d f i p => q v H' (.d d) g3 ⟨I', ls, (w4.step f).push (.d i)⟩ ⟨d, rfl, p⟩) (isAll_cut ha lo hi) p3 hp
theorem opd_neg {i : Int} {post : D → Prop} (p : post (.int (-i))) : OpD K (un1 (rU fun i => .int (-i))) [.int i] post := fun I H ws ex hw Q q => by
  cases hw with
  | cons i1 t =>
    cases t
    cases is_int i1
    exact ⟨_, rfl, i, rfl, out0 ex q (.int _) p⟩
/-- k in d -/
theorem gd_din {td ty : TE} {post : D → List Cell → Prop} (h : GoD K n ty ρ ts g fun dk g1 => GoD K n td ρ (.d dk :: ts) g1 fun d g2 => ∃ kds k, d = dct kds ∧ dk = kD k ∧ post (.bool (lk kds k).isSome) g2) : GoD K n (tDIn ty td) ρ ts g post := by
  intro I0 H0 bs σ vs H hn w Q q
  refine h I0 H0 bs σ vs H hn w _ fun y H1 s g1 w1 ⟨dk, e, p⟩ => ?_
  subst e
  refine p I0 H0 bs σ _ H1 hn w1 _ fun x H2 s2 g2 ⟨I, ls, w2⟩ ⟨d, e, kds, k, e2, e3, pp⟩ => ?_
  subst e e2 e3
  obtain ⟨w3, r2⟩ := w2.pop
  obtain ⟨w4, r1⟩ := w3.pop
  cases r1 with
  | d i1 =>
    cases r2 with
    | d i2 =>
      obtain ⟨a, kvs, rfl, ha, hv⟩ := is_dct i2
      cases is_kV i1
      have e : (valV kvs k).isSome = (lk kds k).isSome := by
        cases z : lk kds k with
        | none => rw [hv.look0 z]; rfl
        | some dv =>
          obtain ⟨u, hu, _⟩ := hv.look z
          rw [hu]
          rfl
      exact ⟨a, valV kvs k, rfl, .inl ⟨kvs, k, .inl (w4.fr.ih _ _ ha), rfl, rfl⟩, q _ H2 (.d (.bool (lk kds k).isSome)) g2 ⟨I, ls, w4.push (by rw [e]; exact .d (.bl _))⟩ ⟨_, rfl, pp⟩⟩
theorem is_rg {I : Hp} : ∀ l : List Nat, IsAll K I (l.map fun i : Nat => V.int (0 + (i : Int))) (l.map encI)
  | [] => .nil
  | i :: l => .cons (by show Is K I (V.int (0 + (i : Int))) (.int (i : Int)); rw [Int.zero_add]; exact .int _) (is_rg l)
theorem gd_lstRg {ta : TE} {post : D → List Cell → Prop} (h : GoD K n ta ρ ts g fun d g1 => ∃ m : Nat, d = .int (m : Int) ∧ m ≤ 100000 ∧ post (.list ((List.range m).map encI)) g1) : GoD K n (tLstRg (tRg1 ta)) ρ ts g post := by
  intro I0 H0 bs σ vs H hn w Q q
  refine h I0 H0 bs σ vs H hn w _ fun v H1 s g1 ⟨I, ls, w1⟩ ⟨d, e, m, e2, hm, p⟩ => ?_
  subst e e2
  obtain ⟨w2, r⟩ := w1.pop
  cases r with
  | d ii =>
    cases is_int ii
    refine ⟨m, rfl, RgOk.of_le (by omega) (by omega) (by omega) (by omega), fun a ha => ?_⟩
    have il : IsAll K I (rgV 0 (m : Int)) ((List.range m).map encI) := by
      unfold rgV
      rw [Int.sub_zero, Int.toNat_natCast]
      exact is_rg _
    exact outL (post := fun d => post d g1) (Q := Q) w2.fr.ih (fun v I' H' d f i p => q v H' (.d d) g1 ⟨I', ls, (w2.step f).push (.d i)⟩ ⟨d, rfl, p⟩) il p ha
end
/-! ### rows held against rows by their names -/
theorem put_mem {α : Type} {kvs : List (Key × α)} {k : Key} {v : α} {x : Key × α} (h : x ∈ putA kvs k v) : x ∈ kvs ∨ x = (k, v) := by
  unfold putA at h
  split at h
  · obtain ⟨y, hy, e⟩ := List.mem_map.mp h
    split at e
    · next z => rw [← z]; exact .inr e.symm
    · rw [← e]; exact .inl hy
  · rcases List.mem_append.mp h with z | z
    · exact .inl z
    · exact .inr (List.mem_singleton.mp z)
theorem merge_mem {α : Type} : ∀ {l acc : List (Key × α)} {x : Key × α}, x ∈ mergeA acc l → x ∈ acc ∨ x ∈ l
  | [], _, _, h => .inl h
  | y :: l, acc, x, h => by
    have h' : x ∈ mergeA (putA acc y.1 y.2) l := h
    rcases merge_mem h' with z | z
    · rcases put_mem z with q | q
      · exact .inl q
      · exact .inr (by rw [q]; exact List.mem_cons_self)
    · exact .inr (List.mem_cons_of_mem _ z)
end Go
namespace Go
open PySem PySem.Spec PyProof.Rows L2 SetMix ZipE
open Evl (Ex)
local macro_rules | `(tactic| walk_at "g") => `(tactic| first
  | ((with_reducible refine gd_var (d := ?dd) ?hv ?_); (case hv => exact rfl))
  | ((with_reducible refine gd_ixScr (ns := ?ns) ?hv ?_); (case hv => exact rfl))
  | ((with_reducible refine gd_ixCel (j := ?jj) ?hv ?_); (case hv => exact rfl))
  | ((with_reducible refine gd_lenScr (ns := ?ns) ?hv ?_); (case hv => exact rfl))
  | with_reducible first
    | refine gs_seq ?_ | refine gs_next ?_ | refine gs_ret ?_ | refine gs_asgD ?_ | refine gs_if ?_
    | refine gt_test ?_ | refine gt_B ?_ | refine gt_and ?_ | refine gt_or ?_ | refine gt_not ?_ | refine gt_yes ?_
    | refine gd_int ?_ | refine gd_str ?_ | refine gd_bl ?_ | refine gd_non ?_
    | refine gd_op ?_ | refine gd_tup ?_ | refine gd_lst ?_
    | refine gd_cb (r := rLenA _) ?_ | refine gd_cb (r := rTupleA _) ?_ | refine gd_cb (r := rAbsA) ?_ | refine gd_cb (r := rMax2A) ?_ | refine gd_cb (r := rMin2A) ?_ | refine gd_cb (r := rIntA) ?_ | refine gd_cb (r := rAny _) ?_ | refine gd_cb (r := rAll _) ?_ | refine gd_cb (r := rDictP _) ?_ | refine gd_cb (r := rMax _) ?_ | refine gd_cb (r := rMin _) ?_
    | refine gs_cons ?_ | refine gs_nil ?_ | refine gd_dget ?_
    | refine gd_and ?_ | refine gd_or ?_ | refine gd_not ?_
    | refine opd_addI ?_ | refine opd_sub ?_ | refine opd_lt ?_ | refine opd_le ?_ | refine opd_gt ?_ | refine opd_ge ?_
    | refine opd_lenL ?_ | refine opd_lenT ?_ | refine opd_tupleL ?_ | refine opd_tupleT ?_ | refine opd_max2 ?_ | refine opd_min2 ?_ | refine opd_abs ?_ | refine opd_intB ?_
    | refine Exists.intro _ (And.intro rfl ?_))
/-! ### rules of the layer that lack: < of data, is None, insert, the least of a list of tuples, len(set(..)) -/
section
variable {X : Cx}
def rLtD (K : PySem.W.Frag) : R2 := fun x y H Q => ∃ d e, Dp K H x d ∧ Dp K H y e ∧ PySem.W.alike d e = true ∧ d ≠ .none ∧ d.depth ≤ 60 ∧ Q (.bl (PySem.W.dataLt d e)) H
theorem op_ltD (hu : X.A.units + 64 < cLine) : OpR X (compareOp .Lt) (rLtD X.K) := by
  intro pins s σ H x y v u Q I rx ry h
  obtain ⟨d, e, hd, he, al, nn, dp, q⟩ := h
  obtain ⟨as, ra⟩ := Dp.reads I d x v hd rx
  obtain ⟨bs, rb⟩ := Dp.reads I e y u he ry
  exact PySem.W.lt_data ra rb al nn (by have := Nat.min_le_left d.depth e.depth; omega) ⟨.bl _, H, I, rfl, q⟩
def rIsN0 : R2 := fun x y H Q => y = .non ∧ Q (.bl (decide (x = .non))) H
def rNotN0 : R2 := fun x y H Q => y = .non ∧ Q (.bl (!decide (x = .non))) H
theorem op_isN0 : OpR X (compareOp .Is) rIsN0 := op_isN
theorem op_notN0 : OpR X (compareOp .IsNot) rNotN0 := op_notN
def rInsert : V → List V → Hp → VK → Prop := fun x vs H Q => ∃ (l : Addr) (xs : List V) (i : Int) (y : V), x = .ref l ∧ vs = [.int i, y] ∧ H l = some (.lst xs) ∧ xs.length < sizeLine ∧ 0 ≤ i ∧ i < 2 ^ 63 ∧ Q .non (upd H l (.lst (xs.take i.toNat ++ [y] ++ xs.drop i.toNat)))
theorem mt_ins : MtR X "list.insert" rInsert := mt_insert
theorem vals_at : ∀ {xs : List V} {us : List Value} {i : Nat} {u : Value}, Vals xs us → us[i]? = some u → ∃ x, xs[i]? = some x ∧ RelV x u
  | _, _, _, _, .nil, e => by simp at e
  | _, _, 0, _, .cons r _, e => by simp at e; subst e; exact ⟨_, rfl, r⟩
  | _, _, i + 1, _, .cons _ t, e => by
    simp at e
    obtain ⟨x, h1, h2⟩ := vals_at t e
    exact ⟨x, by simpa using h1, h2⟩
def rMinD (K : PySem.W.Frag) : List V → Hp → VK → Prop := fun vs H Q => ∃ (a : Addr) (xs : List V) (d : D) (ds : List D), vs = [V.ref a] ∧ SqL K H a xs ∧ DpAll K H xs (d :: ds) ∧ PySem.W.AlikeAll (d :: ds) ∧ PyData.depthAll (d :: ds) ≤ 60 ∧
  ∀ (i : Nat) (v : V), xs[i]? = some v → (d :: ds)[i]? = some (PySem.W.minD d ds) → Q v H
theorem cr_minD (hc : X.calm = true) (hu : X.A.units + 64 < cLine) : CallR X (.builtin "min") (rMinD X.K) := by
  intro pins s σ H vs us Q I r h
  obtain ⟨a, xs, d, ds, rfl, hs, hd, al, dp, q⟩ := h
  rw [Vals.ref1 r]
  obtain ⟨its, rv, pl, hz⟩ := I.list hs
  obtain ⟨as, ra⟩ := Dp.readsAll I (d :: ds) xs its hd rv
  refine PySem.W.min_list_data (vs := its.toArray) (I.ok.hd hc) pl.isList (by simpa using ra) al (by omega) fun i v h' tk bs hv hr hk => ?_
  have hv2 : its[i]? = some v := by simpa using hv
  obtain ⟨x, hx, rx⟩ := vals_at rv hv2
  obtain ⟨bs2, r2, lt, _, _⟩ := PySem.W.readsAll_at ra i v hv2
  have e := (Reads.unique (Reads.keeps hk r2) _ _ hr).1
  refine ⟨x, H, I.kept hk, rx, q i x hx ?_⟩
  rw [← e, List.getD_eq_getElem?_getD, List.getElem?_eq_getElem lt]
  rfl
def rLenTab (wd : PySem.World) : List V → Hp → VK → Prop := fun vs H Q => ∃ (a : Addr) (S : Key → Bool) (m : Nat), vs = [V.ref a] ∧ H a = some (SetMO wd a S m) ∧ ∀ ks0 : List Key, ks0.Nodup → (∀ k, k ∈ ks0 ↔ S k = true) → Q (.int (ks0.length : Nat)) H
theorem cr_lenTab : CallR X (.builtin "len") (rLenTab X.w) := by
  intro pins s σ H vs us Q I r h
  obtain ⟨a, S, m, rfl, ha, q⟩ := h
  rw [Vals.ref1 r]
  obtain ⟨T, _⟩ := (show ObjOk X.prog X.w H s.heap a (SetMO X.w a S m) from I.hok a _ ha)
  obtain ⟨ob, es, ep, tb, h1, h2, h3, _, nd, hS, hz, hf, _⟩ := T
  have len : (keysOf es.toList).length = es.size := by unfold keysOf; simp
  refine call_len_set h1 h2 h3 hf (by unfold scanBound at hz; omega) ⟨.int _, H, I.tok _, ⟨_, by rw [← len]⟩, q (keysOf es.toList) nd fun k => (hS k).symm⟩
end
section
variable {K : PySem.W.Frag} {wd : PySem.World} {I0 H0 I I' H H' : Hp} {bs ls as : List Addr} {n : Nat} {ρ ts : List SV} {g : List Cell} {σ : L2.St} {vs : List V} {κ : Ks}
/-- a reading of what is not reached -/
def tNever : TS := fun _ _ _ => False
theorem ps_never {X : Cx} {st : Stmt} : PS X st tNever := ⟨fun _ _ _ _ _ _ h => h.elim⟩
theorem opd_ltD {d e : D} {post : D → Prop} (al : PySem.W.alike d e = true) (nn : d ≠ .none) (dp : d.depth ≤ 60) (c1 : d.canLay0 = true) (c2 : e.canLay0 = true) (p : post (.bool (PySem.W.dataLt d e))) : OpD K (un2 (rLtD K)) [d, e] post := fun I H ws ex hw Q q => by
  obtain ⟨v, w, rfl, i1, i2⟩ := all2 hw
  exact ⟨_, _, rfl, d, e, i1.dp c1 ex, i2.dp c2 ex, al, nn, dp, out0 ex q (.bl _) p⟩
def isNo : D → Bool
  | .none => true
  | _ => false
theorem opd_isN {d : D} {post : D → Prop} (p : post (.bool (isNo d))) : OpD K (un2 rIsN0) [d, .none] post := fun I H ws ex hw Q q => by
  obtain ⟨v, w, rfl, i1, i2⟩ := all2 hw
  cases i2
  refine ⟨_, _, rfl, rfl, ?_⟩
  have e : decide (v = .non) = isNo d := by cases i1 <;> rfl
  rw [e]
  exact out0 ex q (.bl _) p
theorem opd_notN {d : D} {post : D → Prop} (p : post (.bool (!isNo d))) : OpD K (un2 rNotN0) [d, .none] post := fun I H ws ex hw Q q => by
  obtain ⟨v, w, rfl, i1, i2⟩ := all2 hw
  cases i2
  refine ⟨_, _, rfl, rfl, ?_⟩
  have e : decide (v = .non) = isNo d := by cases i1 <;> rfl
  rw [e]
  exact out0 ex q (.bl _) p
theorem opd_minD {d : D} {ds : List D} {post : D → Prop} (al : PySem.W.AlikeAll (d :: ds)) (dp : PyData.depthAll (d :: ds) ≤ 60) (cl : PyData.canLayAll0 (d :: ds) = true) (p : post (PySem.W.minD d ds)) : OpD K (rMinD K) [.list (d :: ds)] post := fun I H ws ex hw Q q => by
  obtain ⟨v, rfl, i⟩ := all1 hw
  obtain ⟨a, xs, rfl, hs, ha⟩ := is_list i
  refine ⟨a, xs, d, ds, rfl, .inl (Evl.ex_rd ex hs), IsAll.dp cl ex ha, al, dp, fun i v hv he => ?_⟩
  obtain ⟨v', hv', iv⟩ := ha.get he
  rw [hv] at hv'
  cases hv'
  exact out0 ex q iv p
/-- len(set(..)) of texts or numbers -/
theorem gd_lenset {te : TE} {post : D → List Cell → Prop} (h : GoD K n te ρ ts g fun d g1 => ∃ ks : List Key, d = .list (ks.map kD) ∧ ks.length < 4000 ∧ ∀ ks0 : List Key, ks0.Nodup → (∀ k, k ∈ ks0 ↔ k ∈ ks) → post (.int (ks0.length : Nat)) g1) :
    GoD K n (tCB (rLenTab wd) (tCons (tCB (rSetOf K wd) (tCons te tNil)) tNil)) ρ ts g post := by
  intro I0 H0 bs σ vs H hn w Q q
  refine h I0 H0 bs σ vs H hn w _ fun v H1 s g1 ⟨I, ls, w1⟩ ⟨d, e, ks, e2, hz, p⟩ => ?_
  subst e e2
  obtain ⟨w2, r⟩ := w1.pop
  cases r with
  | d i =>
    obtain ⟨a, xs, rfl, hs, ha⟩ := is_list i
    rw [is_keys ha] at hs
    refine ⟨a, ks, rfl, .inl (Evl.ex_rd w2.fr.ih hs), hz, fun s c hs0 hc => ⟨s, _, c, rfl, upd_same, fun ks0 nd hm => ?_⟩⟩
    have f1 : Fr [] I H1 I (upd H1 s (SetMO wd s (fun j => inK ks j) c)) := by
      have hx : ∀ b o, H1 b = some o → upd H1 s (SetMO wd s (fun j => inK ks j) c) b = some o := fun b o e => by rw [upd_ne (ne_of_none e hs0)]; exact e
      refine ⟨Ex.refl I, fun b o e => hx b o (w2.fr.ih b o e), fun b o _ e => hx b o e, fun b e => ?_, fun _ _ e => e⟩
      cases z : H1 b with
      | none => exact absurd z e
      | some o => rw [hx b o z]; exact fun y => nomatch y
    exact q (.int _) _ (.d (.int _)) g1 ⟨I, ls, (w2.step f1).push (.d (.int _))⟩ ⟨_, rfl, p ks0 nd fun k => (hm k).trans inK_iff⟩
/-- xs.insert(i, e) -/
theorem gs_ins {ta : TE} {tr : TA} (h : GoE K n ta ρ [] g fun s g1 => ∃ (j : Nat) (d0 : List D), s = .c j ∧ g1[j]? = some (some d0) ∧ GoDs K n tr ρ [.c j] g1 fun ds g2 => ∃ (i : Int) (d : D) (xs : List D), ds = [.int i, d] ∧ g2[j]? = some (some xs) ∧ xs.length < 90000 ∧ 0 ≤ i ∧ i < 2 ^ 63 ∧ κ.nx ρ (g2.set j (some (xs.take i.toNat ++ [d] ++ xs.drop i.toNat)))) :
    GoS K n (tDrop (tBM K "list" rInsert ta tr)) ρ g κ := by
  intro I0 H0 bs σ H E hn w m
  refine h I0 H0 bs σ [] H hn w _ fun v H1 s g1 ⟨I, ls, w1⟩ ⟨j, d0, e, hg0, p⟩ => ?_
  subst e
  have w1' := w1
  obtain ⟨w2, r⟩ := w1.pop
  cases r with
  | @c a _ hp =>
    obtain ⟨_, x0, hx0, _⟩ := w2.ce.at hp hg0
    refine ⟨Or.inl ⟨rfl, x0, Evl.sq_of hx0⟩, p I0 H0 bs σ [.ref a] H1 hn ⟨I, ls, w1'⟩ _ fun ws H2 ss g2 hl ⟨I2, ls2, w3⟩ ⟨ds, e2, i, d, xs, e3, hg, hz, i0, i1, pn⟩ => ?_⟩
    subst e2 e3
    obtain ⟨w4, rw⟩ := w3.pops hl
    obtain ⟨y, z, rfl, iy, iz⟩ := all2 (rels_d rw)
    cases is_int iy
    obtain ⟨w5, ra⟩ := w4.pop
    cases ra with
    | @c a' _ hp2 =>
      obtain ⟨ip, xv, hx, ia⟩ := w5.ce.at hp2 hg
      exact ⟨_, xv, i, z, rfl, rfl, hx, by rw [ia.length]; exact Evl.sz_lt (by omega), i0, i1, m.nx σ _ ρ _ ⟨I2, ls2, w5.put hp2 ip (by rw [hx]; exact fun z => nomatch z) (((ia.take _).append (.one iz)).append (ia.drop _))⟩ pn⟩
theorem gd_lenCel {i j : Nat} {ds : List D} {post : D → List Cell → Prop} (hi : ρ[i]? = some (.c j)) (hg : g[j]? = some (some ds)) (p : post (.int (ds.length : Nat)) g) : GoD K n (tCB (rLenA K) (tCons (tVar i) tNil)) ρ ts g post := by
  intro I0 H0 bs σ vs H hn ⟨I, ls, w⟩ Q q
  obtain ⟨o, e, r⟩ := Paired.get w.rs hi
  cases r with
  | @c a _ hp =>
    obtain ⟨_, xs, hx, ia⟩ := w.ce.at hp hg
    refine ⟨_, e, .inl ⟨a, xs, rfl, .inl (Evl.sq_of hx), ?_⟩⟩
    rw [ia.length]
    exact q (.int _) H (.d (.int _)) g ⟨I, ls, w.push (.d (.int _))⟩ ⟨_, rfl, p⟩
/-- a call that reads one cell as data, and tells a number, a truth, a text, None -/
def thaw (j : Nat) (b : List D) : SV → SV
  | .c k => if k = j then .d (.list b) else .no
  | s => s
theorem rels_thaw {p : Addr} {xs : List V} {b : List D} {j : Nat} (ip : I p = none) (hp : as[j]? = some p) (ia : IsAll K I xs b) : ∀ {ws : List (Option V)} {ss : List SV}, Rels K I as ws ss → Rels K (upd I p (.lst xs)) [] ws (ss.map (thaw j b))
  | _, _, .nil => .nil
  | _, _, .cons r t => .cons (by
      cases r with
      | no => exact .no
      | d i => exact .d (i.mono (Ex.new ip))
      | s i => exact .s (Evl.ex_l (Ex.new ip) i)
      | @c q k hk =>
        show RelS K _ [] _ (if k = j then .d (.list b) else .no)
        by_cases e : k = j
        · subst e
          rw [hp] at hk
          cases hk
          rw [if_pos rfl]
          exact .d (.lst (.inl upd_same) (ia.mono (Ex.new ip)))
        · rw [if_neg e]; exact .no) (rels_thaw ip hp ia t)
theorem flat_any {J : Hp} {v : V} {d : D} (f : flatD d = true) (i : Is K J v d) : Is K I v d := by
  cases i with
  | non => exact .non
  | bl b => exact .bl b
  | int b => exact .int b
  | str b => exact .str b
  | lst _ _ => cases f
  | tup _ _ => cases f
  | dic _ _ => cases f
theorem gd_callRO {R : RSpec} {E : XK} {ta : TA} {post : D → List Cell → Prop} (h : GoA K n ta ρ ts g fun ss g1 => ∃ j b, g1[j]? = some (some b) ∧ R (ss.map (thaw j b)) [] fun d _ => flatD d = true ∧ post d g1) : GoD K n (tCall (spOf K R) [] E ta) ρ ts g post := by
  intro I0 H0 bs σ vs H hn w Q q
  refine h I0 H0 bs σ vs H hn w _ fun ws H1 ss g1 hl ⟨I, ls, w1⟩ ⟨j, b, hg, p⟩ => ?_
  obtain ⟨w2, r2⟩ := w1.pops hl
  rw [List.append_nil]
  have lj : j < (bs ++ ls).length := by rw [w2.ce.len]; exact (List.getElem?_eq_some_iff.mp hg).1
  have hp : (bs ++ ls)[j]? = some (bs ++ ls)[j] := List.getElem?_eq_getElem lj
  obtain ⟨ip, xs, hx, ia⟩ := w2.ce.at hp hg
  have ex1 : Ex (upd I (bs ++ ls)[j] (.lst xs)) H1 := fun a o e => by
    by_cases y : a = (bs ++ ls)[j]
    · rw [y, upd_same] at e; rw [y, hx]; exact e
    · rw [upd_ne y] at e; exact w2.fr.ih a o e
  refine ⟨_, [], ss.map (thaw j b), [], _, ex1, .nil, rels_thaw ip hp ia r2, p, fun v I' H' d g' f c i ⟨fl, pp⟩ => ?_⟩
  have f0 : Fr [] I H1 I H' := ⟨Ex.refl I, fun a o e => f.fr a o (fun z => nomatch z) (w2.fr.ih a o e), f.fr, f.dm, fun _ _ e => e⟩
  exact q v H' (.d d) g1 ⟨I, ls, (w2.step f0).push (.d (flat_any fl i))⟩ ⟨d, rfl, pp⟩
/-- for target in xs, xs a cell that stays -/
theorem gs_forC {i0 j0 : Nat} {items : List D} {gt : TG} {tb : TS} (hi0 : ρ[i0]? = some (.c j0)) (Iv : Nat → List SV → List Cell → Prop) (iv0 : Iv 0 ρ g) (hstay : ∀ i ρ' g', Iv i ρ' g' → g'[j0]? = some (some items))
    (step : ∀ i d ρ' g', items[i]? = some d → Iv i ρ' g' → g'.length = g.length → GoG K g.length gt d ρ' [] g' fun ρ2 => GoS K g.length tb ρ2 g' ⟨fun ρ3 g3 => Iv (i + 1) (cutS g.length ρ3) (g3.take g.length), fun s g3 => ∃ d, s = .d d ∧ κ.rt (.d d) (g3.take g.length), fun ρ3 g3 => κ.nx (cutS g.length ρ3) (g3.take g.length), fun ρ3 g3 => Iv (i + 1) (cutS g.length ρ3) (g3.take g.length)⟩)
    (fin : ∀ ρ' g', Iv items.length ρ' g' → g'.length = g.length → κ.nx ρ' g') : GoS K n (tFor (iList K (tVar i0)) gt tb) ρ g κ := by
  intro I0 H0 bs σ H E hn ⟨I1, ls, w1⟩ m
  have len1 : (bs ++ ls).length = g.length := w1.ce.len
  obtain ⟨o, eo, r⟩ := Paired.get w1.rs hi0
  cases r with
  | @c p _ hp =>
    have look : ∀ {i ρ' g' I' H' ts' σ' vs'}, Iv i ρ' g' → Wd K I0 H0 bs ls ρ' ts' g' σ' vs' I' H' → ∃ xs, H' p = some (.lst xs) ∧ IsAll K I' xs items := fun iv w => by
      obtain ⟨_, xs, hx, ia⟩ := w.ce.at hp (hstay _ _ _ iv)
      exact ⟨xs, hx, ia⟩
    have out : ∀ {ρ' ts' g' σ' vs' H'}, World K I1 H (bs ++ ls) ρ' ts' g' σ' vs' H' → ∃ I', Wd K I0 H0 bs ls (cutS g.length ρ') (cutS g.length ts') (g'.take g.length) σ' vs' I' H' ∧ Ex I1 I' ∧ (g'.take g.length).length = g.length ∧ Fr (bs ++ ls) I1 H I' H' := by
      intro ρ' ts' g' σ' vs' H' ⟨I', ls', w'⟩
      have tk : ((bs ++ ls) ++ ls').take g.length = bs ++ ls := by rw [← len1, List.take_left']; rfl
      have ce := w'.ce.take g.length
      have rs := rels_cut (m := g.length) w'.rs
      have rv := rels_cut (m := g.length) w'.rv
      rw [tk] at ce rs rv
      exact ⟨I', ⟨w1.fr.deep w1.lo w'.fr, ce, w1.lo, rs, rv⟩, w'.fr.ii, by rw [← ce.len]; exact len1, w'.fr⟩
    obtain ⟨xs0, hx0, _⟩ := look iv0 w1
    refine ⟨_, eo, p, rfl, ⟨xs0, Evl.sq_of hx0⟩, ?_⟩
    refine ⟨fun i k σ' H' => ∃ ρ' g' I', i + k = items.length ∧ Wd K I0 H0 bs ls ρ' [] g' σ' [] I' H' ∧ Fr (bs ++ ls) I1 H I' H' ∧ g'.length = g.length ∧ Iv i ρ' g', ⟨items.length, ρ, g, I1, by omega, w1, Fr.refl w1.fr.ih, rfl, iv0⟩, fun i k σ' H2 hW => ?_⟩
    obtain ⟨ρ', g', I', em, wd, fr, hl, iv⟩ := hW
    obtain ⟨xs, hx, ia⟩ := look iv wd
    have wk := walk_list (K := K) (a := p) (xs := xs)
    by_cases hi : i < items.length
    · refine .inr ⟨wk.goes i H2 (by rw [ia.length]; exact hi) (Evl.sq_of hx), fun σ'' H'' => ∃ ρ' g' I', Wd K I0 H0 bs ls ρ' [] g' σ'' [] I' H'' ∧ Fr (bs ++ ls) I1 H I' H'' ∧ g'.length = g.length ∧ Iv (i + 1) ρ' g', fun σ'' H'' ⟨a, b, c, d, e, f, k2⟩ => ⟨k - 1, by omega, a, b, c, by omega, d, e, f, k2⟩, fun x H3 hy => ?_⟩
      have hdi : items[i]? = some items[i] := List.getElem?_eq_getElem hi
      obtain ⟨rfl, hxi⟩ := wk.yields i H2 x H3 (by rw [ia.length]; exact hi) (Evl.sq_of hx) hy
      obtain ⟨v, hv, ix⟩ := ia.get hdi
      rw [hv] at hxi
      cases hxi
      have wB : World K I1 H (bs ++ ls) ρ' [.d items[i]] g' σ' [x] H3 := by
        refine ⟨I', [], Wd.mk fr ?_ (fun _ z => nomatch z) ?_ ?_⟩
        · rw [List.append_nil]; exact wd.ce
        · rw [List.append_nil]; exact wd.rs
        · rw [List.append_nil]; exact .cons (.d ix) .nil
      refine step i _ ρ' g' hdi iv hl I1 H (bs ++ ls) σ' [] x H3 len1 wB _ fun σ2 ρ2 H4 w4 gb => ?_
      refine gb I1 H (bs ++ ls) σ2 H4 _ len1 w4 ⟨fun σ5 H5 ρ5 g5 w5 p5 => ?_, fun v σ5 H5 ρ5 s5 g5 w5 ⟨d5, e5, p5⟩ => ?_, fun σ5 H5 ρ5 g5 w5 p5 => ?_, fun σ5 H5 ρ5 g5 w5 p5 => ?_⟩
      · obtain ⟨I5, a, b, c, d⟩ := out w5
        exact ⟨_, _, I5, a, d, c, p5⟩
      · subst e5
        obtain ⟨I5, a, b, c, d⟩ := out w5
        exact m.rt v σ5 H5 _ _ _ ⟨I5, ls, a⟩ p5
      · obtain ⟨I5, a, b, c, d⟩ := out w5
        exact m.nx σ5 H5 _ _ ⟨I5, ls, a⟩ p5
      · obtain ⟨I5, a, b, c, d⟩ := out w5
        exact ⟨_, _, I5, a, d, c, p5⟩
    · have e : i = items.length := by omega
      subst e
      refine .inl ⟨?_, m.nx σ' H2 ρ' g' ⟨I', ls, wd⟩ (fin ρ' g' iv hl)⟩
      have := wk.stops H2 (Evl.sq_of hx)
      rw [ia.length] at this
      exact this
end
end Go
namespace SetMix
open PySem PySem.Spec PyProof.Rows L2
section
variable {P : Program} {wd : World} {A : Around} {E : Value → Shared → Prop} {st : Shared}
/-- sorted of a tuple of data -/
theorem sorted_tupD {l : Addr} {its : List Value} {bs : List (V × PyData)} {Q : Value → Shared → Prop} (ht : st.heap.IsTuple l its.toArray) (e1 : PySem.W.EachIs (fun u (b : V × PyData) => RelV b.1 u) its bs) (e2 : PySem.W.EachIs (fun u (b : V × PyData) => ∃ as, Reads st.heap u b.2 as) its bs)
    (al : PySem.W.AllAlike (bs.map (·.2))) (so : PySem.W.Sortable (bs.map (·.2))) (hz : its.length ≤ sizeLine) (hu : ∀ b ∈ bs, A.units + 2 + b.2.depth < cLine)
    (hQ : ∀ (h1 h' : Heap) (out : List Value) (c : Nat), (∀ b o, st.heap.get? b = some o → h1.get? b = some o) → (∀ b o, h1.get? b = some o → h'.get? b = some o) → h'.get? h1.objs.size = some (seqObj "list" out.toArray c) → PySem.W.EachIs (fun u (b : V × PyData) => RelV b.1 u) out (bs.mergeSort (PySem.W.dataLe false (·.2))) → Q (.ref h1.objs.size) { st with heap := h' }) :
    wpAny (model P wd) A (call (.builtin "sorted") [.ref l]) Q E st := by
  obtain ⟨ob, h1, h2, n, h3⟩ := id ht
  refine Calls.call_function_entry kind_sorted plain_sorted entry_sorted (args_sorted1 _) ?_
  unfold Builtin.«sorted»
  refine wpAny_bind (m := checkCount "sorted" 1 1 _) (wpAny_pure ?_)
  refine wpAny_bind (wpAny_collect_seq (A := A.in1) l (.inr rfl) h1 h2 h3 (fun h' k1 => ?_) (by rw [List.size_toArray]; exact hz))
  refine wpAny_bind (wpAny_newList ?_ hz)
  have oL : (h'.push (seqObj "list" its.toArray 0)).get? h'.objs.size = some (seqObj "list" its.toArray 0) := Heap.get?_push_size _ rfl
  have er : ∀ hq : Heap, (∀ b o, st.heap.get? b = some o → hq.get? b = some o) → PySem.W.EachIs (fun u (b : V × PyData) => ∃ as, Reads hq u b.2 as) its bs := fun hq k => e2.mono fun _ _ ⟨as, r⟩ => ⟨as, Reads.keeps k r⟩
  have ks : ∀ b o, st.heap.get? b = some o → (PySem.W.sortingHeap (h'.push (seqObj "list" its.toArray 0)) h'.objs.size its).get? b = some o := fun b o e => by
    have q := k1 b o e
    exact PySem.W.sortingHeap_old (Nat.ne_of_lt (Heap.lt_size q)) (Heap.get?_push_of_some _ q)
  refine wpAny_bind (wpAny_holding (wpAny_call_entry slot_list_sort ⟨_, oL, rfl⟩ entry_list_sort ?_ (args_list_sort _)))
  refine PySem.W.list_sort_vals (s := { st with heap := h'.push (seqObj "list" its.toArray 0) }) oL (PySem.W.SortsAt.data (PySem.W.each_map (R := fun v d => ∃ as, Reads _ v d as) (fun b : V × PyData => b.2) (er _ ks)) al so ?_) hz ⟨_, rfl, ?_⟩
  · intro d hd2
    obtain ⟨b, hb, rfl⟩ := List.mem_map.mp hd2
    exact hu b hb
  · have eo := PySem.W.sortVals_data (h' := PySem.W.sortingHeap (h'.push (seqObj "list" its.toArray 0)) h'.objs.size its) (enc := fun b : V × PyData => b.2) false e1 (er _ ks) al
    obtain ⟨c, hc⟩ := sortedHeap_at (vs := its) (out := (PySem.W.sortVals (PySem.W.dataKind (PySem.W.sortingHeap (h'.push (seqObj "list" its.toArray 0)) h'.objs.size its) (bs.map (·.2))) false its its).toArray) oL
    refine wpAny_pure ⟨_, rfl, hQ h' _ _ c k1 (fun b u q => ?_) hc eo⟩
    have lt2 := Heap.lt_size q
    show (sortedHeap (h'.push (seqObj "list" its.toArray 0)) h'.objs.size its _).get? b = some u
    rw [sortedHeap_old (Nat.ne_of_lt lt2) (by rw [size_push']; exact Nat.lt_succ_of_lt lt2)]
    exact Heap.get?_push_of_some _ q
end
end SetMix
namespace Go
open PySem PySem.Spec PyProof.Rows L2 SetMix ZipE
section
variable {X : Cx}
def rSortedU (K : PySem.W.Frag) : List V → Hp → VK → Prop := fun vs H Q => ∃ (a : Addr) (bs : List (V × PyData)), vs = [V.ref a] ∧ SqT K H a (bs.map (·.1)) ∧ (∀ b ∈ bs, Dp K H b.1 b.2) ∧ PySem.W.AllAlike (bs.map (·.2)) ∧ PySem.W.Sortable (bs.map (·.2)) ∧ (∀ b ∈ bs, b.2.depth ≤ 16) ∧
  ∀ p, H p = none → Q (.ref p) (upd H p (.lst ((bs.mergeSort (PySem.W.dataLe false (·.2))).map (·.1))))
theorem cr_sortedU (hu : X.A.units + 64 < cLine) : CallR X (.builtin "sorted") (rSortedU X.K) := by
  intro pins s σ H vs us Q I r h
  obtain ⟨a, bs, rfl, hl, hd, al, so, dp, q⟩ := h
  rw [Vals.ref1 r]
  obtain ⟨its, rv, pl, hz⟩ := I.tuple hl
  have hz2 : its.length ≤ sizeLine := by
    rw [← rv.length]
    exact hz
  rw [List.length_map] at hz
  have e1 : PySem.W.EachIs (fun u (b : V × PyData) => RelV b.1 u) its bs := each_pairs rv fun u b _ r => r
  have e2 : PySem.W.EachIs (fun u (b : V × PyData) => ∃ as, Reads s.heap u b.2 as) its bs := each_pairs rv fun u b hb r => Dp.reads I b.2 b.1 u (hd b hb) r
  refine sorted_tupD pl e1 e2 al so hz2 (fun b hb => by have := dp b hb; omega) fun h1 h' out c k1 k hc eo => ?_
  have I1 : Inv X pins σ H { s with heap := h1 } := I.kept (t' := s.toks) k1
  refine ⟨.ref _, _, I1.laid (t' := s.toks) k (Nat.le_refl _) (o := .lst ((bs.mergeSort (PySem.W.dataLe false (·.2))).map (·.1))) ⟨?_, out, c, vals_pairs eo, hc⟩, rfl, q _ (I1.hok.fresh (Nat.le_refl _))⟩
  rw [List.length_map, (List.mergeSort_perm _ _).length_eq]
  exact hz
end
section
variable {K : PySem.W.Frag}
theorem opd_sortedU {ds : List D} {post : D → Prop} (al : PySem.W.AllAlike ds) (so : PySem.W.Sortable ds) (ok : ∀ d ∈ ds, d.canLay0 = true ∧ d.depth ≤ 16) (p : post (.list (sortD ds))) : OpD K (rSortedU K) [.tuple ds] post := fun I H ws ex hw Q q => by
  obtain ⟨v, rfl, i⟩ := all1 hw
  obtain ⟨a, xs, rfl, hs, ha⟩ := is_tup i
  obtain ⟨z1, z2, z3⟩ := isAll_zip ha
  refine ⟨a, xs.zip ds, rfl, by rw [z1]; exact Evl.ex_t ex hs, fun b hb => (z3 b hb).dp (ok b.2 (by rw [← z2]; exact List.mem_map.mpr ⟨b, hb, rfl⟩)).1 ex, by rw [z2]; exact al, by rw [z2]; exact so, fun b hb => (ok b.2 (by rw [← z2]; exact List.mem_map.mpr ⟨b, hb, rfl⟩)).2, fun l hl => ?_⟩
  have pm := List.mergeSort_perm (xs.zip ds) (PySem.W.dataLe false (·.2))
  have e : ((xs.zip ds).mergeSort (PySem.W.dataLe false (·.2))).map (·.2) = sortD ds := by
    have h := PySem.W.sort_maps (r := PySem.W.dataLe false fun x : V × D => x.2) (s := PySem.W.dataLe false id) (l := xs.zip ds) (fun x : V × D => x.2) (fun a _ b _ => rfl)
    rw [z2] at h
    exact h
  have ia := isAll_of_pairs (K := K) (I := I) (bs := (xs.zip ds).mergeSort (PySem.W.dataLe false (·.2))) fun b hb => z3 b (pm.mem_iff.mp hb)
  rw [e] at ia
  exact outL ex q ia p hl
end
end Go
namespace Go
open PySem PySem.Spec PyProof.Rows L2 SetMix ZipE
open Evl (Ex)
/-! ### a comprehension of two clauses, over data, that writes nothing -/
section
variable {K : PySem.W.Frag} {n : Nat} {ρ ts : List SV} {g : List Cell}
theorem gd_lc2T {α β : Type} {wi wi1 : TI} {gt gt1 : TG} {tt1 : TT} {te : TE} {js vs1 : List Nat} {post : D → List Cell → Prop} (enc : α → D) (enc1 : β → D) (ys : List β) (pr : α → β → Bool) (res : α → β → D)
    (hm : MonG gt) (hj : InJs js gt) (hm1 : MonG gt1) (hj1 : InJs vs1 gt1)
    (h : GoI K n wi ρ ts g fun items g1 => ∃ xs : List α, items = xs.map enc ∧ xs.length * ys.length ≤ 50000 ∧
      (∀ (i : Nat) (a : α), xs[i]? = some a → GoG K g1.length gt (enc a) (wipeS ρ js) ts g1 fun ρ1 => GoI K g1.length wi1 ρ1 ts g1 fun items1 g2 => g2 = g1 ∧ items1 = ys.map enc1 ∧
        ∀ (j : Nat) (b : β), ys[j]? = some b → GoG K g1.length gt1 (enc1 b) (wipeS ρ1 vs1) ts g1 fun ρ2 => GoT K g1.length tt1 ρ2 ts g1 fun t g3 => g3 = g1 ∧ t = pr a b ∧ GoD K g1.length te ρ2 ts g1 fun e g4 => g4 = g1 ∧ e = res a b) ∧
      post (.list (xs.flatMap fun a => (ys.filter (pr a)).map (res a))) g1) : GoD K n (tLc2 wi gt tYes wi1 gt1 tt1 te js vs1) ρ ts g post := by
  intro I0 H0 bs σ vs H hn w Q q
  refine h I0 H0 bs σ vs H hn w _ fun J H1 g1 items I1 ls w1 wk ⟨xs, eit, hz, step, pf⟩ Dl hD => ?_
  have h0 : H0 Dl = none := by
    cases z : H0 Dl with
    | none => rfl
    | some o => exact absurd hD (w1.fr.dm Dl (by rw [z]; exact fun y => nomatch y))
  have nD : Dl ∉ bs ++ ls := fun m => w1.ce.in_ Dl m hD
  have i1D : I1 Dl = none := Evl.fresh_back w1.fr.ih hD
  have len1 : (bs ++ ls).length = g1.length := w1.ce.len
  have lit : items.length = xs.length := by rw [eit, List.length_map]
  let F : α → List D := fun a => (ys.filter (pr a)).map (res a)
  have lF : ∀ a, (F a).length ≤ ys.length := fun a => by
    show (List.map _ _).length ≤ _
    rw [List.length_map]
    exact List.length_filter_le _ _
  have lA : ∀ l : List α, (l.flatMap F).length ≤ l.length * ys.length := by
    intro l
    induction l with
    | nil => exact Nat.zero_le _
    | cons a l ih =>
      rw [List.flatMap_cons, List.length_append, List.length_cons, Nat.succ_mul]
      have := lF a
      omega
  -- the world seen from outside; a block lent all cells gives it back
  have back : ∀ {I3 H3 accV}, Wd K I0 H0 bs ls ρ ts g1 σ vs I3 H3 → I3 Dl = none → H3 Dl = some (.lst accV) → ∀ {ρ' ts' g' σ' vs' H'}, World K I3 H3 (bs ++ ls) ρ' ts' g' σ' vs' H' → g' = g1 → ∃ I', Wd K I0 H0 bs ls ρ ts g1 σ vs I' H' ∧ Ex I3 I' ∧ I' Dl = none ∧ H' Dl = some (.lst accV) ∧ Rels K I' (bs ++ ls) (vs'.map some) ts' ∧ Rels K I' (bs ++ ls) σ' ρ' := by
    intro I3 H3 accV wd iD hDl ρ' ts' g' σ' vs' H' ⟨I', ls', w'⟩ eg
    subst eg
    have : ls' = [] := by
      have e := w'.ce.len
      rw [List.length_append, len1] at e
      exact List.length_eq_zero_iff.mp (by omega)
    subst this
    have ce := w'.ce
    have rv := w'.rv
    have rs := w'.rs
    rw [List.append_nil] at ce rv rs
    exact ⟨I', ⟨wd.fr.deep wd.lo w'.fr, ce, wd.lo, wd.rs.mono w'.fr.ii, wd.rv.mono w'.fr.ii⟩, w'.fr.ii, w'.fr.nw Dl (by rw [hDl]; exact fun y => nomatch y) iD, w'.fr.fr Dl _ nD hDl, rv, rs⟩
  have lent : ∀ {I3 H3 x d σ' ρ'}, Wd K I0 H0 bs ls ρ ts g1 σ vs I3 H3 → Rels K I3 (bs ++ ls) σ' ρ' → Is K I3 x d → World K I3 H3 (bs ++ ls) ρ' (.d d :: ts) g1 σ' (x :: vs) H3 := fun wd rs ix => by
    refine ⟨_, [], Wd.mk (Fr.refl wd.fr.ih) ?_ (fun _ z => nomatch z) ?_ ?_⟩
    · rw [List.append_nil]; exact wd.ce
    · rw [List.append_nil]; exact rs
    · rw [List.append_nil]; exact .cons (.d ix) wd.rv
  have grow : ∀ {I3 H3 accV y}, Wd K I0 H0 bs ls ρ ts g1 σ vs I3 H3 → I3 Dl = none → H3 Dl = some (.lst accV) → Wd K I0 H0 bs ls ρ ts g1 σ vs I3 (upd H3 Dl (.lst (accV ++ [y]))) := fun {I3 H3 accV y} wd iD hDl => by
    have hx : ∀ b o, b ≠ Dl → H3 b = some o → upd H3 Dl (.lst (accV ++ [y])) b = some o := fun b o nb e => by rw [upd_ne nb]; exact e
    refine ⟨⟨wd.fr.ii, fun b o e => hx b o (fun z => by rw [z, iD] at e; cases e) (wd.fr.ih b o e), fun b o m e => hx b o (fun z => by rw [z, h0] at e; cases e) (wd.fr.fr b o m e), fun b e => ?_, wd.fr.nw⟩, wd.ce.keep (Ex.refl I3) (fun b m o e => hx b o (ne_mem m nD) e) (fun _ _ e => e), wd.lo, wd.rs, wd.rv⟩
    cases z : H3 b with
    | none => exact absurd z (wd.fr.dm b e)
    | some o => rw [hx b o (fun y : b = Dl => e (by rw [y]; exact h0)) z]; exact fun y => nomatch y
  refine ⟨fun i m H => ∃ I accV, i + m = xs.length ∧ Wd K I0 H0 bs ls ρ ts g1 σ vs I H ∧ Ex I1 I ∧ I Dl = none ∧ H Dl = some (.lst accV) ∧ IsAll K I accV ((xs.take i).flatMap F), ⟨xs.length, I1, [], by omega, ?_, Ex.refl I1, i1D, upd_same, .nil⟩, fun i m H2 hW => ?_⟩
  · have hx : ∀ b o, H1 b = some o → upd H1 Dl (.lst []) b = some o := fun b o e => by rw [upd_ne (ne_of_none e hD)]; exact e
    refine ⟨⟨w1.fr.ii, fun b o e => hx b o (w1.fr.ih b o e), fun b o m e => hx b o (w1.fr.fr b o m e), fun b e => ?_, w1.fr.nw⟩, w1.ce.keep (Ex.refl I1) (fun b _ o e => hx b o e) (fun _ _ e => e), w1.lo, w1.rs, w1.rv⟩
    cases z : H1 b with
    | none => exact absurd z (w1.fr.dm b e)
    | some o => rw [hx b o z]; exact fun y => nomatch y
  · obtain ⟨I, accV, em, wd, exI, iD, hDl, ia⟩ := hW
    by_cases hi : i < xs.length
    · have hit : i < items.length := by rw [lit]; exact hi
      have ha : xs[i]? = some xs[i] := List.getElem?_eq_getElem hi
      have hdi : items[i]? = some (enc xs[i]) := by rw [eit, List.getElem?_map, ha]; rfl
      refine .inr ⟨wk.go i I H2 exI wd.fr.ih hit, fun H' => ∃ I accV, Wd K I0 H0 bs ls ρ ts g1 σ vs I H' ∧ Ex I1 I ∧ I Dl = none ∧ H' Dl = some (.lst accV) ∧ IsAll K I accV ((xs.take (i + 1)).flatMap F), fun H' ⟨I', accV', a, b, c, d, e⟩ => ⟨m - 1, by omega, I', accV', by omega, a, b, c, d, e⟩, fun x H3 hy => ?_⟩
      obtain ⟨I3, f3, ix⟩ := wk.yld i _ I H2 x H3 exI wd.fr.ih hdi hy
      have wd3 := wd.step f3
      have hD3 : H3 Dl = some (.lst accV) := f3.fr Dl _ (fun z => nomatch z) hDl
      have iD3 : I3 Dl = none := f3.nw Dl (by rw [hDl]; exact fun y => nomatch y) iD
      have tk : (xs.take (i + 1)).flatMap F = (xs.take i).flatMap F ++ F xs[i] := by
        rw [List.take_add_one, ha, List.flatMap_append]
        show _ ++ (List.flatMap F [xs[i]]) = _
        rw [List.flatMap_singleton]
      have gG := step i xs[i] ha I3 H3 (bs ++ ls) (wipe σ js) vs x H3 len1 (lent wd3 (rels_wipes wd3.rs js) ix) (fun σ2 H4 => wi1 σ2 H4 fun J1 H5 => ∃ W1 : Nat → Nat → Hp → Prop, (∃ m, W1 0 m H5) ∧ ∀ j k H, W1 j k H → (J1.stop j H ∧ ∃ I accV, Wd K I0 H0 bs ls ρ ts g1 σ vs I H ∧ Ex I1 I ∧ I Dl = none ∧ H Dl = some (.lst accV) ∧ IsAll K I accV ((xs.take (i + 1)).flatMap F)) ∨ (J1.go j H ∧ ∃ Nx1 : Hp → Prop, (∀ H', Nx1 H' → ∃ k', k' < k ∧ W1 (j + 1) k' H') ∧ ∀ x H', J1.yld j H x H' → gt1 x (wipe σ2 vs1) H' fun σ3 H6 => wipe σ3 vs1 = wipe σ2 vs1 ∧ tt1 σ3 H6 fun b H7 => if b = true then te σ3 H7 fun y H8 => ∃ acc, H8 Dl = some (.lst acc) ∧ acc.length < sizeLine ∧ Nx1 (upd H8 Dl (.lst (acc ++ [y]))) else Nx1 H7)) fun σ2 ρ1 H4 w4 gI => ?_
      · refine hm x _ H3 _ _ (fun σ2 H4 q4 => ?_) (hj x _ H3 _ gG)
        obtain ⟨q4, e4⟩ := q4
        rw [wipe_wipe] at e4
        refine ⟨e4, ?_⟩
        unfold tYes
        dsimp only
        rw [if_pos rfl]
        exact q4
      · refine gI I3 H3 (bs ++ ls) σ2 vs H4 len1 w4 _ fun J1 H5 g5 items1 I5 ls5 w5 wk1 ⟨eg, ei1, st1⟩ => ?_
        subst eg
        have ls0 : ls5 = [] := by
          have e := w5.ce.len
          rw [List.length_append, len1] at e
          exact List.length_eq_zero_iff.mp (by omega)
        subst ls0
        obtain ⟨rs5, wd5, ex5, i5D, h5D⟩ : Rels K I5 (bs ++ ls) σ2 ρ1 ∧ Wd K I0 H0 bs ls ρ ts g5 σ vs I5 H5 ∧ Ex I3 I5 ∧ I5 Dl = none ∧ H5 Dl = some (.lst accV) := by
          have ce := w5.ce
          have rs := w5.rs
          rw [List.append_nil] at ce rs
          exact ⟨rs, ⟨wd3.fr.deep wd3.lo w5.fr, ce, wd3.lo, wd3.rs.mono w5.fr.ii, wd3.rv.mono w5.fr.ii⟩, w5.fr.ii, w5.fr.nw Dl (by rw [hD3]; exact fun y => nomatch y) iD3, w5.fr.fr Dl _ nD hD3⟩
        have li1 : items1.length = ys.length := by rw [ei1, List.length_map]
        have bnd : ((xs.take i).flatMap F).length + ys.length ≤ 50000 := by
          have h1 := lA (xs.take i)
          rw [List.length_take, Nat.min_eq_left (by omega)] at h1
          have h2 : (i + 1) * ys.length ≤ xs.length * ys.length := Nat.mul_le_mul_right _ (by omega)
          rw [Nat.succ_mul] at h2
          omega
        refine ⟨fun j k H => ∃ I accV, j + k = ys.length ∧ Wd K I0 H0 bs ls ρ ts g5 σ vs I H ∧ Rels K I (bs ++ ls) σ2 ρ1 ∧ Ex I5 I ∧ I Dl = none ∧ H Dl = some (.lst accV) ∧ IsAll K I accV ((xs.take i).flatMap F ++ ((ys.take j).filter (pr xs[i])).map (res xs[i])), ⟨ys.length, I5, accV, by omega, wd5, rs5, Ex.refl I5, i5D, h5D, ?_⟩, fun j k H6 hW1 => ?_⟩
        · show IsAll K I5 accV ((xs.take i).flatMap F ++ [])
          rw [List.append_nil]
          exact (ia.mono f3.ii).mono ex5
        obtain ⟨I6, accV6, ek, wd6, rs6, ex6, i6D, h6D, ia6⟩ := hW1
        by_cases hj6 : j < ys.length
        · have hb : ys[j]? = some ys[j] := List.getElem?_eq_getElem hj6
          have hdj : items1[j]? = some (enc1 ys[j]) := by rw [ei1, List.getElem?_map, hb]; rfl
          have tkj : ((ys.take (j + 1)).filter (pr xs[i])) = ((ys.take j).filter (pr xs[i])) ++ [ys[j]].filter (pr xs[i]) := by
            rw [List.take_add_one, hb, List.filter_append]
            rfl
          refine .inr ⟨wk1.go j I6 H6 ex6 wd6.fr.ih (by rw [li1]; exact hj6), fun H' => ∃ I accV, Wd K I0 H0 bs ls ρ ts g5 σ vs I H' ∧ Rels K I (bs ++ ls) σ2 ρ1 ∧ Ex I5 I ∧ I Dl = none ∧ H' Dl = some (.lst accV) ∧ IsAll K I accV ((xs.take i).flatMap F ++ ((ys.take (j + 1)).filter (pr xs[i])).map (res xs[i])), fun H' ⟨I', accV', a, b, c, d, e, f⟩ => ⟨k - 1, by omega, I', accV', by omega, a, b, c, d, e, f⟩, fun x1 H7 hy1 => ?_⟩
          obtain ⟨I7, f7, ix7⟩ := wk1.yld j _ I6 H6 x1 H7 ex6 wd6.fr.ih hdj hy1
          have wd7 := wd6.step f7
          have rs7 := rs6.mono f7.ii
          have h7D : H7 Dl = some (.lst accV6) := f7.fr Dl _ (fun z => nomatch z) h6D
          have i7D : I7 Dl = none := f7.nw Dl (by rw [h6D]; exact fun y => nomatch y) i6D
          have ia7 := ia6.mono f7.ii
          have gG1 := st1 j ys[j] hb I7 H7 (bs ++ ls) (wipe σ2 vs1) vs x1 H7 len1 (lent wd7 (rels_wipes rs7 vs1) ix7) (fun σ3 H8 => tt1 σ3 H8 fun b H9 => if b = true then te σ3 H9 fun y HA => ∃ acc, HA Dl = some (.lst acc) ∧ acc.length < sizeLine ∧ (∃ I accV, Wd K I0 H0 bs ls ρ ts g5 σ vs I (upd HA Dl (.lst (acc ++ [y]))) ∧ Rels K I (bs ++ ls) σ2 ρ1 ∧ Ex I5 I ∧ I Dl = none ∧ (upd HA Dl (.lst (acc ++ [y]))) Dl = some (.lst accV) ∧ IsAll K I accV ((xs.take i).flatMap F ++ ((ys.take (j + 1)).filter (pr xs[i])).map (res xs[i]))) else ∃ I accV, Wd K I0 H0 bs ls ρ ts g5 σ vs I H9 ∧ Rels K I (bs ++ ls) σ2 ρ1 ∧ Ex I5 I ∧ I Dl = none ∧ H9 Dl = some (.lst accV) ∧ IsAll K I accV ((xs.take i).flatMap F ++ ((ys.take (j + 1)).filter (pr xs[i])).map (res xs[i]))) fun σ3 ρ3 H8 w8 gT => ?_
          · refine hm1 x1 _ H7 _ _ (fun σ3 H8 q8 => ?_) (hj1 x1 _ H7 _ gG1)
            obtain ⟨q8, e8⟩ := q8
            rw [wipe_wipe] at e8
            exact ⟨e8, q8⟩
          · refine gT I7 H7 (bs ++ ls) σ3 vs H8 len1 w8 _ fun b H9 g9 w9 ⟨e9, eb, gE⟩ => ?_
            cases b with
            | true =>
              rw [if_pos rfl]
              subst e9
              refine gE I7 H7 (bs ++ ls) σ3 vs H9 len1 w9 _ fun y HA s gA wA ⟨e, es, egA, ee⟩ => ?_
              subst es
              obtain ⟨IA, wdA, exA, iAD, hAD, rvA, _⟩ := back wd7 i7D h7D wA egA
              cases rvA with
              | cons ry _ =>
                cases ry with
                | d iy =>
                  have il := ia7.length
                  refine ⟨accV6, hAD, ?_, IA, accV6 ++ [y], grow wdA iAD hAD, (rs7.mono exA), (ex6.trans f7.ii).trans exA, iAD, upd_same, ?_⟩
                  · have := List.length_filter_le (pr xs[i]) (ys.take j)
                    rw [List.length_append, List.length_map] at il
                    rw [List.length_take] at this
                    refine Evl.sz_lt ?_
                    omega
                  · have pt : pr xs[i] ys[j] = true := by rw [← eb]
                    rw [tkj, List.filter_cons_of_pos pt, List.map_append, ← List.append_assoc]
                    subst ee
                    exact ((ia7.mono exA)).append (.one iy)
            | false =>
              rw [if_neg Bool.false_ne_true]
              obtain ⟨IA, wdA, exA, iAD, hAD, _, _⟩ := back wd7 i7D h7D w9 e9
              refine ⟨IA, accV6, wdA, rs7.mono exA, (ex6.trans f7.ii).trans exA, iAD, hAD, ?_⟩
              have pt : ¬ pr xs[i] ys[j] = true := by rw [← eb]; exact Bool.false_ne_true
              rw [tkj, List.filter_cons_of_neg pt]
              show IsAll K IA accV6 (_ ++ List.map _ (_ ++ []))
              rw [List.append_nil]
              exact ia7.mono exA
        · have e : j = ys.length := by omega
          subst e
          refine .inl ⟨?_, I6, accV6, wd6, ((exI.trans f3.ii).trans ex5).trans ex6, i6D, h6D, ?_⟩
          · have := wk1.stop I6 H6 ex6 wd6.fr.ih
            rw [li1] at this
            exact this
          · rw [tk]
            rw [List.take_length] at ia6
            exact ia6
    · have e : i = xs.length := by omega
      subst e
      have st := wk.stop I H2 exI wd.fr.ih
      rw [lit] at st
      refine .inl ⟨st, ?_⟩
      rw [List.take_length] at ia
      exact q (.ref Dl) H2 (.d (.list (xs.flatMap F))) g1 ⟨upd I Dl (.lst accV), ls, (wd.freeze h0 nD iD hDl).push (.d (.lst (.inl upd_same) (ia.mono (Ex.new iD))))⟩ ⟨_, rfl, pf⟩
end
end Go
namespace Go
open PySem PySem.Spec PyProof.Rows L2 SetMix ZipE
local macro_rules | `(tactic| walk_at "g") => `(tactic| first
  | ((with_reducible refine gd_var (d := ?dd) ?hv ?_); (case hv => exact rfl))
  | ((with_reducible refine gd_ixScr (ns := ?ns) ?hv ?_); (case hv => exact rfl))
  | ((with_reducible refine gd_ixCel (j := ?jj) ?hv ?_); (case hv => exact rfl))
  | ((with_reducible refine gd_lenScr (ns := ?ns) ?hv ?_); (case hv => exact rfl))
  | with_reducible first
    | refine gs_seq ?_ | refine gs_next ?_ | refine gs_ret ?_ | refine gs_asgD ?_ | refine gs_if ?_
    | refine gt_test ?_ | refine gt_B ?_ | refine gt_and ?_ | refine gt_or ?_ | refine gt_not ?_ | refine gt_yes ?_
    | refine gd_int ?_ | refine gd_str ?_ | refine gd_bl ?_ | refine gd_non ?_
    | refine gd_op ?_ | refine gd_tup ?_ | refine gd_lst ?_
    | refine gd_cb (r := rLenA _) ?_ | refine gd_cb (r := rTupleA _) ?_ | refine gd_cb (r := rAbsA) ?_ | refine gd_cb (r := rMax2A) ?_ | refine gd_cb (r := rMin2A) ?_ | refine gd_cb (r := rIntA) ?_ | refine gd_cb (r := rAny _) ?_ | refine gd_cb (r := rAll _) ?_ | refine gd_cb (r := rDictP _) ?_ | refine gd_cb (r := rMax _) ?_ | refine gd_cb (r := rMin _) ?_
    | refine gs_cons ?_ | refine gs_nil ?_ | refine gd_dget ?_
    | refine gd_and ?_ | refine gd_or ?_ | refine gd_not ?_
    | refine opd_addI ?_ | refine opd_sub ?_ | refine opd_lt ?_ | refine opd_le ?_ | refine opd_gt ?_ | refine opd_ge ?_
    | refine opd_lenL ?_ | refine opd_lenT ?_ | refine opd_tupleL ?_ | refine opd_tupleT ?_ | refine opd_max2 ?_ | refine opd_min2 ?_ | refine opd_abs ?_ | refine opd_intB ?_
    | refine Exists.intro _ (And.intro rfl ?_))
/-! ### roomsday.kinds, of anything -/
def wholeB : D → Bool
  | .int _ => true
  | _ => false
def numB (d : D) (lo hi : Int) : Bool := match d with
  | .int i => decide (lo ≤ i) && decide (i ≤ hi)
  | _ => false
def tupB (d : D) (lo hi : Int) : Bool := match d with
  | .tuple xs => decide (lo ≤ (xs.length : Int)) && decide ((xs.length : Int) ≤ hi)
  | _ => false
def risB : List D → Bool
  | a :: b :: r => PySem.W.dataLt a b && risB (b :: r)
  | _ => true
structure OkR (ds : List D) : Prop where
  ln : ds.length ≤ 1000
  nn : ∀ a ∈ ds, a ≠ .none
  dp : ∀ a ∈ ds, a.depth ≤ 60
  cl : ∀ a ∈ ds, a.canLay0 = true
  al : ∀ a ∈ ds, ∀ b ∈ ds, PySem.W.alike a b = true
def Ris_whole : RSpec := fun ss g post => ∃ d, ss = [.d d] ∧ g = [] ∧ post (.bool (wholeB d)) []
def Ris_number : RSpec := fun ss g post => ∃ d lo hi, ss = [.d d, .d (.int lo), .d (.int hi)] ∧ g = [] ∧ post (.bool (numB d lo hi)) []
def Ris_tuple : RSpec := fun ss g post => ∃ d lo hi, ss = [.d d, .d (.int lo), .d (.int hi)] ∧ g = [] ∧ post (.bool (tupB d lo hi)) []
def Ris_rising : RSpec := fun ss g post => ∃ d ds, ss = [.d d] ∧ g = [] ∧ (d = .list ds ∨ d = .tuple ds) ∧ OkR ds ∧ post (.bool (risB ds)) []
theorem whole_int {d : D} (h : wholeB d = true) : ∃ i, d = .int i := by
  cases d with
  | int i => exact ⟨i, rfl⟩
  | _ => cases h
theorem isa_whole {d : D} (h : isaD "int" d = true) : (!isaD "bool" d) = wholeB d := by
  cases d <;> first | rfl | (exfalso; revert h; simp [isaD, isaN, tyN])
theorem isa_whole0 {d : D} (h : isaD "int" d = false) : wholeB d = false := by
  cases d <;> first | rfl | (exfalso; revert h; simp [isaD, isaN, tyN])
theorem isa_tuple {d : D} (h : isaD "tuple" d = true) : ∃ xs, d = .tuple xs := by
  cases d with
  | tuple xs => exact ⟨xs, rfl⟩
  | _ => exfalso; revert h; simp [isaD, isaN, tyN]
theorem isa_tuple0 {d : D} (h : isaD "tuple" d = false) : ∀ xs, d ≠ .tuple xs := by
  rintro xs rfl
  revert h; simp [isaD, isaN, tyN]
theorem isa_str {d : D} (h : isaD "str" d = true) : ∃ x, d = .str x := by
  cases d with
  | str xs => exact ⟨xs, rfl⟩
  | _ => exfalso; revert h; simp [isaD, isaN, tyN]
theorem isa_str0 {d : D} (h : isaD "str" d = false) : ∀ x, d ≠ .str x := by
  rintro xs rfl
  revert h; simp [isaD, isaN, tyN]
theorem ris_range : ∀ ds : List D, ((List.range (ds.length - 1)).map fun i => PySem.W.dataLt (ds.getD i .none) (ds.getD (i + 1) .none)).all id = risB ds
  | [] => rfl
  | [_] => rfl
  | a :: b :: r => by
    have ih := ris_range (b :: r)
    have e : (a :: b :: r).length - 1 = ((b :: r).length - 1) + 1 := by simp
    rw [e, List.range_succ_eq_map, List.map_cons, List.all_cons, List.map_map]
    unfold risB
    rw [← ih]
    rfl
section
variable {K : PySem.W.Frag} {wd : PySem.World} {n : Nat} {ρ ts : List SV} {g : List Cell}
theorem opd_ixE {d : D} {ds : List D} {i : Int} {e : D} {post : D → Prop} (hd : d = .list ds ∨ d = .tuple ds) (h : atI ds i = some e) (p : post e) : OpD K (un2 (rIx K)) [d, .int i] post := by
  rcases hd with rfl | rfl
  · exact opd_ixL h p
  · exact opd_ixT h p
theorem opd_lenE {d : D} {ds : List D} {post : D → Prop} (hd : d = .list ds ∨ d = .tuple ds) (p : post (.int (ds.length : Nat))) : OpD K (rLenA K) [d] post := by
  rcases hd with rfl | rfl
  · exact opd_lenL p
  · exact opd_lenT p
def tis_whole (K : PySem.W.Frag) (wd : PySem.World) : TS := (tRet (tAndV (tCB (rIsi K) (tCons (tVar 0) (tCons (tC (.ty "int")) tNil))) (tNotV (tCB (rIsi K) (tCons (tVar 0) (tCons (tC (.ty "bool")) tNil))))))
theorem go_is_whole (ss : List SV) (g : List Cell) (post : D → List Cell → Prop) (h : Ris_whole ss g post) : GoS K g.length (tis_whole K wd) (ss ++ List.replicate (1 - ss.length) .no) g (KF g.length post) := by
  obtain ⟨d, rfl, rfl, p⟩ := h
  unfold tis_whole
  refine gs_ret (gd_and (gd_isi (by simp) (gd_var rfl ⟨_, rfl, fun hb => gd_not (gd_isi (by simp) (gd_var rfl ⟨_, rfl, _, rfl, ?_⟩)), fun hb => ⟨_, rfl, ?_⟩⟩)))
  · rw [isa_whole hb]; exact p
  · rw [isa_whole0 hb] at p; exact p
def tis_number (K : PySem.W.Frag) (wd : PySem.World) : TS := (tRet (tAndV (tCall (spOf K Ris_whole) [] E0 (tCons (tVar 0) tNil)) (tChain (rI0 fun i j => V.bl (decide (i ≤ j))) (rI0 fun i j => V.bl (decide (i ≤ j))) (tVar 1) (tVar 0) (tVar 2))))
theorem go_is_number (ss : List SV) (g : List Cell) (post : D → List Cell → Prop) (h : Ris_number ss g post) : GoS K g.length (tis_number K wd) (ss ++ List.replicate (3 - ss.length) .no) g (KF g.length post) := by
  obtain ⟨d, lo, hi, rfl, rfl, p⟩ := h
  unfold tis_number
  refine gs_ret (gd_and (gd_call (gs_cons (gd_var rfl (gs_nil ⟨d, rfl, rfl, _, rfl, fun hb => ?_, fun hb => ⟨_, rfl, ?_⟩⟩)))))
  · obtain ⟨i, rfl⟩ := whole_int hb
    refine gd_chain (gd_var rfl (gd_var rfl (opd_le ⟨_, rfl, fun h1 => gd_var rfl (opd_le ⟨_, rfl, ?_⟩), fun h1 => ⟨_, rfl, ?_⟩⟩)))
    · have e : numB (.int i) lo hi = decide (i ≤ hi) := by
        show (decide (lo ≤ i) && decide (i ≤ hi)) = _
        rw [h1, Bool.true_and]
      rw [e] at p
      exact p
    · have e : numB (.int i) lo hi = false := by
        show (decide (lo ≤ i) && decide (i ≤ hi)) = _
        rw [h1, Bool.false_and]
      rw [e] at p
      exact p
  · have e : numB d lo hi = false := by
      cases d <;> first | rfl | cases hb
    rw [e] at p
    exact p
def tis_tuple (K : PySem.W.Frag) (wd : PySem.World) : TS := (tRet (tAndV (tCB (rIsi K) (tCons (tVar 0) (tCons (tC (.ty "tuple")) tNil))) (tChain (rI0 fun i j => V.bl (decide (i ≤ j))) (rI0 fun i j => V.bl (decide (i ≤ j))) (tVar 1) (tCB (rLenA K) (tCons (tVar 0) tNil)) (tVar 2))))
theorem go_is_tuple (ss : List SV) (g : List Cell) (post : D → List Cell → Prop) (h : Ris_tuple ss g post) : GoS K g.length (tis_tuple K wd) (ss ++ List.replicate (3 - ss.length) .no) g (KF g.length post) := by
  obtain ⟨d, lo, hi, rfl, rfl, p⟩ := h
  unfold tis_tuple
  refine gs_ret (gd_and (gd_isi (by simp) (gd_var rfl ⟨_, rfl, fun hb => ?_, fun hb => ⟨_, rfl, ?_⟩⟩)))
  · obtain ⟨xs, rfl⟩ := isa_tuple hb
    refine gd_chain (gd_var rfl (gd_cb (r := rLenA K) (gs_cons (gd_var rfl (gs_nil (opd_lenT (opd_le ⟨_, rfl, fun h1 => gd_var rfl (opd_le ⟨_, rfl, ?_⟩), fun h1 => ⟨_, rfl, ?_⟩⟩)))))))
    · have e : tupB (.tuple xs) lo hi = decide ((xs.length : Int) ≤ hi) := by
        show (decide (lo ≤ (xs.length : Int)) && _) = _
        rw [h1, Bool.true_and]
      rw [e] at p
      exact p
    · have e : tupB (.tuple xs) lo hi = false := by
        show (decide (lo ≤ (xs.length : Int)) && _) = _
        rw [h1, Bool.false_and]
      rw [e] at p
      exact p
  · have e : tupB d lo hi = false := by
      cases d <;> first | rfl | exact absurd rfl (isa_tuple0 hb _)
    rw [e] at p
    exact p
def tis_rising (K : PySem.W.Frag) (wd : PySem.World) : TS := (tRet (tCB (rAll K) (tCons (tLc (iRng1 (tCons (tOp (rI0 fun i j => V.int (i - j)) (tCB (rLenA K) (tCons (tVar 0) tNil)) (tC (.int 1))) tNil)) (gName 1) tYes (tOp (rLtD K) (tOp (rIx K) (tVar 0) (tVar 1)) (tOp (rIx K) (tVar 0) (tOp (rAddA K) (tVar 1) (tC (.int 1))))) [1]) tNil)))
def encLt (ds : List D) (i : Nat) : D := .bool (PySem.W.dataLt (ds.getD i .none) (ds.getD (i + 1) .none))
theorem go_is_rising (ss : List SV) (g : List Cell) (post : D → List Cell → Prop) (h : Ris_rising ss g post) : GoS K g.length (tis_rising K wd) (ss ++ List.replicate (2 - ss.length) .no) g (KF g.length post) := by
  obtain ⟨d, ds, rfl, rfl, hd, ok, p⟩ := h
  unfold tis_rising
  refine gs_ret (gd_cb (r := rAll K) (gs_cons (gd_mapT encI (encLt ds) mg_name (ij_name (by simp)) (gi_rng1 (gs_cons (gd_op (gd_cb (r := rLenA K) (gs_cons (gd_var rfl (gs_nil (opd_lenE hd ?_)))))))))))
  (repeat (walk_at "g"))
  have ln := ok.ln
  have e0 : ((ds.length : Int) - 1).toNat = ds.length - 1 := by omega
  refine ⟨by omega, by omega, List.range (ds.length - 1), by rw [e0]; exact rng_enc _, by rw [List.length_range]; omega, fun i a ha => gg_name ?_, ?_⟩
  · have ea : a = i ∧ i < ds.length - 1 := by
      have lt := (List.getElem?_eq_some_iff.mp ha).1
      rw [List.length_range] at lt
      rw [List.getElem?_range lt] at ha
      exact ⟨(Option.some.inj ha).symm, lt⟩
    obtain ⟨rfl, lt⟩ := ea
    have g1 : ∀ k, k < ds.length → ds[k]? = some (ds.getD k .none) ∧ ds.getD k .none ∈ ds := fun k hk => by
      rw [List.getD_eq_getElem?_getD, List.getElem?_eq_getElem hk]
      exact ⟨rfl, List.getElem_mem hk⟩
    obtain ⟨a1, a2⟩ := g1 a (by omega)
    obtain ⟨b1, b2⟩ := g1 (a + 1) (by omega)
    refine gd_op (gd_op (gd_var rfl (gd_var rfl (opd_ixE hd (atI_nat a1) ?_))))
    refine gd_op (gd_var rfl (gd_op (gd_var rfl (gd_int (opd_addI (opd_ixE hd (atI_nat (j := a + 1) b1) ?_))))))
    exact opd_ltD (ok.al _ a2 _ b2) (ok.nn _ a2) (ok.dp _ a2) (ok.cl _ a2) (ok.cl _ b2) ⟨rfl, rfl⟩
  · have e : (List.range (ds.length - 1)).map (encLt ds) = ((List.range (ds.length - 1)).map fun i => PySem.W.dataLt (ds.getD i .none) (ds.getD (i + 1) .none)).map PyData.bool := by
      rw [List.map_map]
      rfl
    rw [e]
    refine gs_nil (opd_all ⟨_, rfl, ?_⟩)
    rw [ris_range]
    exact p
end
end Go
namespace Go
open PySem PySem.Spec PyProof.Rows L2 SetMix ZipE
local macro_rules | `(tactic| walk_at "g") => `(tactic| first
  | ((with_reducible refine gd_var (d := ?dd) ?hv ?_); (case hv => exact rfl))
  | ((with_reducible refine gd_ixScr (ns := ?ns) ?hv ?_); (case hv => exact rfl))
  | ((with_reducible refine gd_ixCel (j := ?jj) ?hv ?_); (case hv => exact rfl))
  | ((with_reducible refine gd_lenScr (ns := ?ns) ?hv ?_); (case hv => exact rfl))
  | with_reducible first
    | refine gs_seq ?_ | refine gs_next ?_ | refine gs_ret ?_ | refine gs_asgD ?_ | refine gs_if ?_
    | refine gt_test ?_ | refine gt_B ?_ | refine gt_and ?_ | refine gt_or ?_ | refine gt_not ?_ | refine gt_yes ?_
    | refine gd_int ?_ | refine gd_str ?_ | refine gd_bl ?_ | refine gd_non ?_
    | refine gd_op ?_ | refine gd_tup ?_ | refine gd_lst ?_
    | refine gd_cb (r := rLenA _) ?_ | refine gd_cb (r := rTupleA _) ?_ | refine gd_cb (r := rAbsA) ?_ | refine gd_cb (r := rMax2A) ?_ | refine gd_cb (r := rMin2A) ?_ | refine gd_cb (r := rIntA) ?_ | refine gd_cb (r := rAny _) ?_ | refine gd_cb (r := rAll _) ?_ | refine gd_cb (r := rDictP _) ?_ | refine gd_cb (r := rMax _) ?_ | refine gd_cb (r := rMin _) ?_
    | refine gs_cons ?_ | refine gs_nil ?_ | refine gd_dget ?_
    | refine gd_and ?_ | refine gd_or ?_ | refine gd_not ?_
    | refine opd_addI ?_ | refine opd_sub ?_ | refine opd_lt ?_ | refine opd_le ?_ | refine opd_gt ?_ | refine opd_ge ?_
    | refine opd_lenL ?_ | refine opd_lenT ?_ | refine opd_tupleL ?_ | refine opd_tupleT ?_ | refine opd_max2 ?_ | refine opd_min2 ?_ | refine opd_abs ?_ | refine opd_intB ?_
    | refine Exists.intro _ (And.intro rfl ?_))
/-! ### is_plan, of anything -/
def findC (cs : List Cs) (nm : Str) : Option Cs := cs.find? fun c => decide (c.nm = nm)
def geB (d : D) (f : Int) : Bool := match d with
  | .int s => decide (f ≤ s)
  | _ => false
def rowB3 (cs : List Cs) (a b c : D) : Bool := match b, c with
  | .str nm, .int rm => match findC cs nm with
    | none => false
    | some c => (c.pl.any fun r => r == rm) && (numB a 0 2000 && geB a c.fi)
  | _, _ => false
def rowB (cs : List Cs) (d : D) : Bool := match d with
  | .tuple [a, b, c] => rowB3 cs a b c
  | _ => false
def rowNm (d : D) : Str := match d with
  | .tuple [_, .str nm, _] => nm
  | _ => ""
def planB (cs : List Cs) (d : D) : Bool := match d with
  | .tuple xs => decide (xs.length ≤ cs.length) && (xs.all (rowB cs) && (risB xs && decide ((xs.map rowNm).Nodup)))
  | _ => false
def Ris_row : RSpec := fun ss g post => ∃ cs d, ss = [.d (encCs cs), .d d] ∧ g = [] ∧ (cs.map (·.nm)).Nodup ∧ cs.length ≤ 8 ∧ post (.bool (rowB cs d)) []
def Ris_plan : RSpec := fun ss g post => ∃ cs d, ss = [.d (encCs cs), .d d] ∧ g = [] ∧ (cs.map (·.nm)).Nodup ∧ cs.length ≤ 8 ∧ (∀ c ∈ cs, okS c.nm) ∧ post (.bool (planB cs d)) []
theorem tup3 {d : D} (h : tupB d 3 3 = true) : ∃ a b c, d = .tuple [a, b, c] := by
  cases d with
  | tuple xs =>
    have h2 : (decide ((3 : Int) ≤ (xs.length : Int)) && decide ((xs.length : Int) ≤ 3)) = true := h
    rw [Bool.and_eq_true] at h2
    have l1 := of_decide_eq_true h2.1
    have l2 := of_decide_eq_true h2.2
    match xs, l1, l2 with
    | [a, b, c], _, _ => exact ⟨a, b, c, rfl⟩
    | [], l1, _ => simp at l1
    | [_], l1, _ => simp at l1
    | [_, _], l1, _ => simp at l1
    | _ :: _ :: _ :: _ :: _, _, l2 => simp at l2; omega
  | _ => cases h
theorem row_tup {cs : List Cs} {d : D} (h : tupB d 3 3 = false) : rowB cs d = false := by
  unfold rowB
  split
  · revert h
    simp [tupB]
  · rfl
theorem row_of {cs : List Cs} {d : D} (h : rowB cs d = true) : ∃ (r : Rw) (c : Cs), d = encR r ∧ c ∈ cs ∧ c.nm = r.nm ∧ r.rm ∈ c.pl ∧ c.fi ≤ r.st ∧ 0 ≤ r.st ∧ r.st ≤ 2000 := by
  unfold rowB at h
  split at h
  · rename_i a b c
    unfold rowB3 at h
    split at h
    · rename_i nm rm
      cases z : findC cs nm with
      | none => rw [z] at h; cases h
      | some c =>
        rw [z] at h
        simp only [Bool.and_eq_true] at h
        obtain ⟨h1, h2, h3⟩ := h
        cases a with
        | int s =>
          have h2' : (decide ((0 : Int) ≤ s) && decide (s ≤ 2000)) = true := h2
          rw [Bool.and_eq_true] at h2'
          obtain ⟨r, hr, er⟩ := List.any_eq_true.mp h1
          have hm := List.mem_of_find?_eq_some z
          have hn := List.find?_some z
          exact ⟨⟨s, nm, rm⟩, c, rfl, hm, of_decide_eq_true hn, by rw [← eq_of_beq er]; exact hr, of_decide_eq_true h3, of_decide_eq_true h2'.1, of_decide_eq_true h2'.2⟩
        | _ => cases h2
    · cases h
  · cases h
theorem rows_of {cs : List Cs} : ∀ {xs : List D}, xs.all (rowB cs) = true → ∃ rs : List Rw, xs = rs.map encR ∧ ∀ r ∈ rs, ∃ c ∈ cs, c.nm = r.nm ∧ r.rm ∈ c.pl ∧ c.fi ≤ r.st ∧ 0 ≤ r.st ∧ r.st ≤ 2000
  | [], _ => ⟨[], rfl, fun _ z => nomatch z⟩
  | x :: xs, h => by
    rw [List.all_cons, Bool.and_eq_true] at h
    obtain ⟨r, c, e, hc, h2⟩ := row_of h.1
    obtain ⟨rs, e2, h3⟩ := rows_of h.2
    refine ⟨r :: rs, by rw [e, e2]; rfl, fun q hq => ?_⟩
    rcases List.mem_cons.mp hq with z | z
    · rw [z]; exact ⟨c, hc, h2⟩
    · exact h3 q z
theorem rowNm_map (rs : List Rw) : (rs.map encR).map rowNm = rs.map (·.nm) := by
  rw [List.map_map]
  rfl
theorem short_of_dup {α : Type} [DecidableEq α] : ∀ {ks l : List α}, ¬ ks.Nodup → l.Nodup → (∀ x ∈ l, x ∈ ks) → l.length < ks.length
  | [], _, h, _, _ => absurd List.nodup_nil h
  | a :: t, l, h, hl, hs => by
    by_cases ha : a ∈ t
    · have : l.length ≤ t.length := nodup_sub_len hl fun x hx => by
        rcases List.mem_cons.mp (hs x hx) with z | z
        · rw [z]; exact ha
        · exact z
      rw [List.length_cons]
      omega
    · have ht : ¬ t.Nodup := fun z => h (List.nodup_cons.mpr ⟨ha, z⟩)
      have := short_of_dup (l := l.erase a) ht (hl.erase a) fun x hx => by
        rcases List.mem_cons.mp (hs x (List.mem_of_mem_erase hx)) with z | z
        · rw [z] at hx
          exact absurd hx (List.Nodup.not_mem_erase hl)
        · exact z
      have e : l.length ≤ (l.erase a).length + 1 := by
        rw [List.length_erase]
        split <;> omega
      rw [List.length_cons]
      omega
theorem nodup_len {α : Type} [DecidableEq α] {ks l : List α} (hl : l.Nodup) (hm : ∀ k, k ∈ l ↔ k ∈ ks) : decide (l.length = ks.length) = decide ks.Nodup := by
  by_cases h : ks.Nodup
  · have a := nodup_sub_len hl fun x hx => (hm x).mp hx
    have b := nodup_sub_len h fun x hx => (hm x).mpr hx
    rw [decide_eq_true h, decide_eq_true (by omega)]
  · have a := short_of_dup h hl fun x hx => (hm x).mp hx
    rw [decide_eq_false h, decide_eq_false (by omega)]
theorem eqv_nats (a b : Nat) : PyData.eqv (.int (a : Int)) (.int (b : Int)) = decide (a = b) := by
  by_cases h : a = b
  · subst h; simp [PyData.eqv]
  · rw [decide_eq_false h]
    simp [PyData.eqv]
    omega
theorem lk_find {cs : List Cs} (nd : (cs.map (·.nm)).Nodup) (nm : Str) : lk (dictC cs) (.inr nm) = (findC cs nm).map encC := by
  rw [dictC_eq nd, lk_map]
  rfl
theorem any_intZ (p : Int) : ∀ (xs : List Int), ((xs.map PyData.int).any fun y => PyData.eqv y (.int p)) = xs.any fun q => q == p
  | [] => rfl
  | x :: xs => by
    rw [List.map_cons, List.any_cons, List.any_cons, any_intZ p xs]
    simp [PyData.eqv]
theorem flat_intZ : ∀ xs : List Int, (xs.map PyData.int).all flatD = true
  | [] => rfl
  | x :: xs => by rw [List.map_cons, List.all_cons, flat_intZ xs]; rfl
theorem okR_rows {rs : List Rw} (hl : rs.length ≤ 1000) (h : ∀ r ∈ rs, okS r.nm) : OkR (rs.map encR) where
  ln := by rw [List.length_map]; exact hl
  nn := fun a ha => by obtain ⟨r, _, rfl⟩ := List.mem_map.mp ha; exact fun z => nomatch z
  dp := fun a ha => by obtain ⟨r, _, rfl⟩ := List.mem_map.mp ha; exact Nat.le_trans (depth_row r) (by decide)
  cl := fun a ha => by obtain ⟨r, hr, rfl⟩ := List.mem_map.mp ha; exact lay_row (h r hr)
  al := fun a ha b hb => by
    obtain ⟨r, _, rfl⟩ := List.mem_map.mp ha
    obtain ⟨q, _, rfl⟩ := List.mem_map.mp hb
    simp [encR, PySem.W.alike, PySem.W.alikeAll]
section
variable {K : PySem.W.Frag} {wd : PySem.World} {n : Nat} {ρ ts : List SV} {g : List Cell}
def tis_row (K : PySem.W.Frag) (wd : PySem.World) : TS := (tSeq (tIfS (tNot (tB (tCall (spOf K Ris_tuple) [] E0 (tCons (tVar 1) (tCons (tC (.int 3)) (tCons (tC (.int 3)) tNil)))))) (tRet (tC (.bl false))) tNext) (tSeq (tAsg (tVar 1) (gTup K 3 (gCons (gName 3) (gCons (gName 4) (gCons (gName 5) gNil))))) (tSeq (tIfS (tOr (tNot (tB (tCB (rIsi K) (tCons (tVar 4) (tCons (tC (.ty "str")) tNil))))) (tNot (tB (tCall (spOf K Ris_whole) [] E0 (tCons (tVar 5) tNil))))) (tRet (tC (.bl false))) tNext) (tSeq (tAsg (tDGet1 (tCall (spOf K Rby_names) [] E0 (tCons (tVar 0) tNil)) (tVar 4)) (gName 2)) (tSeq (tIfS (tTest (tOp rIsN0 (tVar 2) (tC .non))) (tRet (tC (.bl false))) tNext) (tRet (tAndV (tOp (rIn K false) (tVar 5) (tOp (rIx K) (tVar 2) (tC (.int 4)))) (tAndV (tCall (spOf K Ris_number) [] E0 (tCons (tVar 3) (tCons (tC (.int 0)) (tCons (tC (.int 2000)) tNil)))) (tOp (rI0 fun i j => V.bl (decide (i ≤ j))) (tOp (rIx K) (tVar 2) (tC (.int 5))) (tVar 3))))))))))
theorem go_is_row (ss : List SV) (g : List Cell) (post : D → List Cell → Prop) (h : Ris_row ss g post) : GoS K g.length (tis_row K wd) (ss ++ List.replicate (6 - ss.length) .no) g (KF g.length post) := by
  obtain ⟨cs, d, rfl, rfl, nd, l8, p⟩ := h
  unfold tis_row
  refine gs_seq (gs_if (gt_not (gt_B (gd_call (gs_cons (gd_var rfl (gs_cons (gd_int (gs_cons (gd_int (gs_nil ⟨d, 3, 3, rfl, rfl, _, rfl, fun hb => ?_, fun hb => gs_next ?_⟩)))))))))))
  · refine gs_ret (gd_bl ⟨_, rfl, ?_⟩)
    have hb2 : tupB d 3 3 = false := by simpa using hb
    rw [row_tup hb2] at p
    exact p
  have hb2 : tupB d 3 3 = true := by simpa using hb
  obtain ⟨a, b, c, rfl⟩ := tup3 hb2
  have e3 : rowB cs (.tuple [a, b, c]) = rowB3 cs a b c := rfl
  rw [e3] at p
  refine gs_seq (gs_asgG (gd_var rfl (gg3 ?_)))
  have bad : rowB3 cs a b c = false → post (.bool false) [] := fun e => by
    rw [e] at p
    exact p
  refine gs_seq (gs_if (gt_or (gt_not (gt_B (gd_isi (by simp) (gd_var rfl ⟨_, rfl, fun h1 => ?_, fun h1 => ⟨fun _ => ?_, fun z => nomatch z⟩⟩))))))
  · refine gt_not (gt_B (gd_call (gs_cons (gd_var rfl (gs_nil ⟨c, rfl, rfl, _, rfl, fun h2 => gs_ret (gd_bl ⟨_, rfl, bad ?_⟩), fun h2 => gs_next ?_⟩)))))
    · have hc : wholeB c = false := by simpa using h2
      unfold rowB3
      split
      · cases hc
      · rfl
    have hc : wholeB c = true := by simpa using h2
    obtain ⟨rm, rfl⟩ := whole_int hc
    have hs : isaD "str" b = true := by simpa using h1
    obtain ⟨nm, rfl⟩ := isa_str hs
    refine gs_seq (gs_asgD (gd_dget1 (gd_call (gs_cons (gd_var rfl (gs_nil ⟨cs, rfl, rfl, l8, _, rfl, gd_var rfl ⟨.inr nm, rfl, fun v hv => ?_, fun hv => ?_⟩⟩))))))
    · rw [lk_find nd] at hv
      cases z : findC cs nm with
      | none => rw [z] at hv; cases hv
      | some c =>
        rw [z] at hv
        cases hv
        have e4 : rowB3 cs a (.str nm) (.int rm) = ((c.pl.any fun r => r == rm) && (numB a 0 2000 && geB a c.fi)) := by
          show (match findC cs nm with | none => false | some c => (c.pl.any fun r => r == rm) && (numB a 0 2000 && geB a c.fi)) = _
          rw [z]
        rw [e4] at p
        refine gs_seq (gs_if (gt_test (gd_op (gd_var rfl (gd_non (opd_isN ⟨_, rfl, fun z => (nomatch z), fun _ => gs_next ?_⟩))))))
        refine gs_ret (gd_and (gd_op (gd_var rfl (gd_op (gd_var rfl (gd_int (opd_ixT (d := .tuple (c.pl.map PyData.int)) rfl (opd_inT rfl (flat_intZ _) ?_))))))))
        rw [any_intZ]
        refine ⟨_, rfl, fun h3 => ?_, fun h3 => ⟨_, rfl, ?_⟩⟩
        · have h3' : (c.pl.any fun r => r == rm) = true := h3
          rw [h3', Bool.true_and] at p
          refine gd_and (gd_call (gs_cons (gd_var rfl (gs_cons (gd_int (gs_cons (gd_int (gs_nil ⟨a, 0, 2000, rfl, rfl, _, rfl, fun h4 => ?_, fun h4 => ⟨_, rfl, ?_⟩⟩))))))))
          · rw [h4, Bool.true_and] at p
            cases a with
            | int s => exact gd_op (gd_op (gd_var rfl (gd_int (opd_ixT (d := .int c.fi) rfl (gd_var rfl (opd_le ⟨_, rfl, p⟩))))))
            | _ => cases h4
          · rw [h4, Bool.false_and] at p
            exact p
        · have h3' : (c.pl.any fun r => r == rm) = false := h3
          rw [h3', Bool.false_and] at p
          exact p
    · rw [lk_find nd] at hv
      have z : findC cs nm = none := by
        cases z : findC cs nm with
        | none => rfl
        | some c => rw [z] at hv; cases hv
      have e4 : rowB3 cs a (.str nm) (.int rm) = false := by
        show (match findC cs nm with | none => false | some c => (c.pl.any fun r => r == rm) && (numB a 0 2000 && geB a c.fi)) = _
        rw [z]
      rw [e4] at p
      exact gs_seq (gs_if (gt_test (gd_op (gd_var rfl (gd_non (opd_isN ⟨_, rfl, fun _ => gs_ret (gd_bl ⟨_, rfl, p⟩), fun z => nomatch z⟩))))))
  · have hs : isaD "str" b = false := by simpa using h1
    refine gs_ret (gd_bl ⟨_, rfl, bad ?_⟩)
    unfold rowB3
    split
    · exact absurd rfl (isa_str0 hs _)
    · rfl
def tis_plan (K : PySem.W.Frag) (wd : PySem.World) : TS := (tSeq (tIfS (tNot (tB (tCall (spOf K Ris_tuple) [] E0 (tCons (tVar 1) (tCons (tC (.int 0)) (tCons (tCB (rLenA K) (tCons (tVar 0) tNil)) tNil)))))) (tRet (tC (.bl false))) tNext) (tSeq (tIfS (tNot (tB (tCB (rAll K) (tCons (tLc (iTup K (tVar 1)) (gName 3) tYes (tCall (spOf K Ris_row) [] E0 (tCons (tVar 0) (tCons (tVar 3) tNil))) [3]) tNil)))) (tRet (tC (.bl false))) tNext) (tSeq (tAsg (tLc (iTup K (tVar 1)) (gName 3) tYes (tOp (rIx K) (tVar 3) (tC (.int 1))) [3]) (gName 2)) (tRet (tAndV (tCall (spOf K Ris_rising) [] E0 (tCons (tVar 1) tNil)) (tOp (rEqD K) (tCB (rLenTab wd) (tCons (tCB (rSetOf K wd) (tCons (tVar 2) tNil)) tNil)) (tCB (rLenA K) (tCons (tVar 2) tNil))))))))
def encRB (cs : List Cs) (d : D) : D := .bool (rowB cs d)
def encNm (r : Rw) : D := .str r.nm
theorem go_is_plan (ss : List SV) (g : List Cell) (post : D → List Cell → Prop) (h : Ris_plan ss g post) : GoS K g.length (tis_plan K wd) (ss ++ List.replicate (4 - ss.length) .no) g (KF g.length post) := by
  obtain ⟨cs, d, rfl, rfl, nd, l8, okn, p⟩ := h
  unfold tis_plan
  refine gs_seq (gs_if (gt_not (gt_B (gd_call (gs_cons (gd_var rfl (gs_cons (gd_int (gs_cons (gd_cb (r := rLenA K) (gs_cons (gd_var rfl (gs_nil (opd_lenT (gs_nil ⟨d, 0, _, rfl, rfl, _, rfl, fun hb => ?_, fun hb => gs_next ?_⟩)))))))))))))))
  · have hb2 : tupB d 0 ((cs.map encC).length : Nat) = false := by simpa using hb
    rw [List.length_map] at hb2
    have e : planB cs d = false := by
      cases d with
      | tuple xs =>
        have h2 : (decide ((0 : Int) ≤ (xs.length : Int)) && decide ((xs.length : Int) ≤ (cs.length : Int))) = false := hb2
        have h3 : ¬ xs.length ≤ cs.length := fun z => by
          rw [decide_eq_true (by omega), decide_eq_true (by omega)] at h2
          cases h2
        show (decide (xs.length ≤ cs.length) && _) = false
        rw [decide_eq_false h3, Bool.false_and]
      | _ => rfl
    rw [e] at p
    exact gs_ret (gd_bl ⟨_, rfl, p⟩)
  have hb2 : tupB d 0 ((cs.map encC).length : Nat) = true := by simpa using hb
  rw [List.length_map] at hb2
  cases d with
  | tuple xs =>
    have h2 : (decide ((0 : Int) ≤ (xs.length : Int)) && decide ((xs.length : Int) ≤ (cs.length : Int))) = true := hb2
    rw [Bool.and_eq_true] at h2
    have hl : xs.length ≤ cs.length := by have := of_decide_eq_true h2.2; omega
    have e : planB cs (.tuple xs) = (xs.all (rowB cs) && (risB xs && decide ((xs.map rowNm).Nodup))) := by
      show (decide (xs.length ≤ cs.length) && _) = _
      rw [decide_eq_true hl, Bool.true_and]
    rw [e] at p
    have mapT : ∀ {ρ ts g} {post : D → List Cell → Prop}, ρ[1]? = some (.d (.tuple xs)) → ρ[0]? = some (.d (encCs cs)) → 4 ≤ ρ.length → post (.list (xs.map (encRB cs))) g → GoD K 0 (tLc (iTup K (tVar 1)) (gName 3) tYes (tCall (spOf K Ris_row) [] E0 (tCons (tVar 0) (tCons (tVar 3) tNil))) [3]) ρ ts g post := fun {ρ ts g post} h1 h0 hz pp => by
      refine gd_mapT id (encRB cs) mg_name (ij_name (by simp)) (gi_tup (gd_var h1 ⟨_, rfl, xs, (List.map_id xs).symm, by omega, fun i x hx => gg_name (gd_call (gs_cons (gd_var (d := encCs cs) ?_ (gs_cons (gd_var (d := x) ?_ (gs_nil ⟨cs, x, rfl, rfl, nd, l8, rfl, rfl⟩)))))), pp⟩))
      · show ((wipeS ρ [3]).set 3 _)[0]? = _
        unfold wipeS wipeS
        rw [List.getElem?_set_ne (by decide), List.getElem?_set_ne (by decide)]
        exact h0
      · show ((wipeS ρ [3]).set 3 _)[3]? = _
        unfold wipeS wipeS
        rw [List.getElem?_set_self (by rw [List.length_set]; omega)]
        rfl
    refine gs_seq (gs_if (gt_not (gt_B (gd_cb (r := rAll K) (gs_cons (mapT rfl rfl (Nat.le_refl _) ?_))))))
    have e1 : xs.map (encRB cs) = (xs.map (rowB cs)).map PyData.bool := by rw [List.map_map]; rfl
    rw [e1]
    refine gs_nil (opd_all ⟨_, rfl, fun h3 => ?_, fun h3 => gs_next ?_⟩)
    · rw [List.all_map] at h3
      have h4 : xs.all (rowB cs) = false := by simpa using h3
      rw [h4, Bool.false_and] at p
      exact gs_ret (gd_bl ⟨_, rfl, p⟩)
    rw [List.all_map] at h3
    have h4 : xs.all (rowB cs) = true := by simpa using h3
    rw [h4, Bool.true_and] at p
    obtain ⟨rs, rfl, hrs⟩ := rows_of h4
    rw [List.length_map] at hl
    rw [rowNm_map] at p
    refine gs_seq (gs_asgD (gd_mapT encR encNm mg_name (ij_name (by simp)) (gi_tup (gd_var rfl ⟨_, rfl, rs, rfl, by omega, fun i r hr => gg_name (gd_op (gd_var rfl (gd_int (opd_ixT (d := .str r.nm) rfl ⟨rfl, rfl⟩)))), ?_⟩))))
    have okr : ∀ r ∈ rs, okS r.nm := fun r hr => by
      obtain ⟨c, hc, e, _⟩ := hrs r hr
      rw [← e]
      exact okn c hc
    refine gs_ret (gd_and (gd_call (gs_cons (gd_var rfl (gs_nil ⟨_, rs.map encR, rfl, rfl, .inr rfl, okR_rows (by omega) okr, _, rfl, fun h5 => ?_, fun h5 => ⟨_, rfl, ?_⟩⟩)))))
    · rw [h5, Bool.true_and] at p
      have ek : rs.map encNm = (rs.map fun r => (Sum.inr r.nm : Key)).map kD := by rw [List.map_map]; rfl
      refine gd_op (gd_lenset (gd_var rfl ⟨rs.map fun r => (Sum.inr r.nm : Key), by rw [ek], by rw [List.length_map]; omega, fun ks0 nd0 hm => ?_⟩))
      refine gd_cb (r := rLenA K) (gs_cons (gd_var rfl (gs_nil (opd_lenL (opd_eq rfl rfl ⟨_, rfl, ?_⟩)))))
      have e5 : PyData.eqv (.int (ks0.length : Nat)) (.int ((rs.map encNm).length : Nat)) = decide (rs.map (·.nm)).Nodup := by
        rw [List.length_map]
        have h6 := nodup_len nd0 hm
        rw [List.length_map] at h6
        have h7 : decide (rs.map fun r => (Sum.inr r.nm : Key)).Nodup = decide (rs.map (·.nm)).Nodup := by
          have : (rs.map fun r => (Sum.inr r.nm : Key)) = (rs.map (·.nm)).map Sum.inr := by rw [List.map_map]; rfl
          rw [this]
          refine decide_eq_decide.mpr ⟨fun z => List.Pairwise.of_map (Sum.inr : Str → Key) (fun a b hne e => hne (congrArg _ e)) z, fun z => List.Pairwise.map _ (fun a b hne e => hne (Sum.inr.inj e)) z⟩
        rw [← h7, ← h6]
        exact eqv_nats _ _
      rw [e5]
      exact p
    · rw [h5, Bool.false_and] at p
      exact p
  | _ => cases hb2
end
end Go
namespace Go
open PySem PySem.Spec PyProof.Rows L2 SetMix ZipE
local macro_rules | `(tactic| walk_at "g") => `(tactic| first
  | ((with_reducible refine gd_var (d := ?dd) ?hv ?_); (case hv => exact rfl))
  | ((with_reducible refine gd_ixScr (ns := ?ns) ?hv ?_); (case hv => exact rfl))
  | ((with_reducible refine gd_ixCel (j := ?jj) ?hv ?_); (case hv => exact rfl))
  | ((with_reducible refine gd_lenScr (ns := ?ns) ?hv ?_); (case hv => exact rfl))
  | with_reducible first
    | refine gs_seq ?_ | refine gs_next ?_ | refine gs_ret ?_ | refine gs_asgD ?_ | refine gs_if ?_
    | refine gt_test ?_ | refine gt_B ?_ | refine gt_and ?_ | refine gt_or ?_ | refine gt_not ?_ | refine gt_yes ?_
    | refine gd_int ?_ | refine gd_str ?_ | refine gd_bl ?_ | refine gd_non ?_
    | refine gd_op ?_ | refine gd_tup ?_ | refine gd_lst ?_
    | refine gd_cb (r := rLenA _) ?_ | refine gd_cb (r := rTupleA _) ?_ | refine gd_cb (r := rAbsA) ?_ | refine gd_cb (r := rMax2A) ?_ | refine gd_cb (r := rMin2A) ?_ | refine gd_cb (r := rIntA) ?_ | refine gd_cb (r := rAny _) ?_ | refine gd_cb (r := rAll _) ?_ | refine gd_cb (r := rDictP _) ?_ | refine gd_cb (r := rMax _) ?_ | refine gd_cb (r := rMin _) ?_
    | refine gs_cons ?_ | refine gs_nil ?_ | refine gd_dget ?_
    | refine gd_and ?_ | refine gd_or ?_ | refine gd_not ?_
    | refine opd_addI ?_ | refine opd_sub ?_ | refine opd_lt ?_ | refine opd_le ?_ | refine opd_gt ?_ | refine opd_ge ?_
    | refine opd_lenL ?_ | refine opd_lenT ?_ | refine opd_tupleL ?_ | refine opd_tupleT ?_ | refine opd_max2 ?_ | refine opd_min2 ?_ | refine opd_abs ?_ | refine opd_intB ?_
    | refine Exists.intro _ (And.intro rfl ?_))
/-! ### plans by orders: the mathematics -/
def endU (cs : List Cs) (o : Rw) : Int := o.st + (getC cs o.nm).us
def freeM (cs : List Cs) (rows : List Rw) (c : Cs) (room : Int) : Int := bgn c.fi ((rows.filter fun o => o.rm == room || share (getC cs o.nm) c).map (endU cs))
def pickM (f : Int → Int) (nm : Str) (b : Option Rw) (r : Int) : Option Rw := match b with
  | none => some ⟨f r, nm, r⟩
  | some x => if f r < x.st then some ⟨f r, nm, r⟩ else some x
def putM (cs : List Cs) (rows : List Rw) (nm : Str) : Rw := ((getC cs nm).pl.foldl (pickM (freeM cs rows (getC cs nm)) nm) none).getD default
def rowsM (cs : List Cs) (order : List Str) : List Rw := order.foldl (fun rows nm => rows ++ [putM cs rows nm]) []
def planM (cs : List Cs) (order : List Str) : List Rw := (rowsM cs order).mergeSort (PySem.W.dataLe false encR)
structure OkO (cs : List Cs) (order : List Str) : Prop where
  nd : (cs.map (·.nm)).Nodup
  l8 : cs.length ≤ 8
  pm : order.Perm (cs.map (·.nm))
  okn : ∀ c ∈ cs, okS c.nm
  okt : ∀ c ∈ cs, ∀ p ∈ c.tm, okS p
  tl : ∀ c ∈ cs, c.tm.length ≤ 1000
  p0 : ∀ c ∈ cs, c.pl ≠ []
  pn : ∀ c ∈ cs, c.pl.length ≤ 1000
  pu : ∀ c ∈ cs, UpI c.pl
theorem rows_snoc (cs : List Cs) (order : List Str) (nm : Str) : rowsM cs (order ++ [nm]) = rowsM cs order ++ [putM cs (rowsM cs order) nm] := by
  unfold rowsM
  rw [List.foldl_append]
  rfl
theorem pick_nm {f : Int → Int} {nm : Str} : ∀ (ps : List Int) (b : Option Rw), (∀ x, b = some x → x.nm = nm ∧ x.st = f x.rm) → (b ≠ none ∨ ps ≠ []) → ∃ x, ps.foldl (pickM f nm) b = some x ∧ x.nm = nm ∧ x.st = f x.rm ∧ ((∃ y, b = some y ∧ x = y) ∨ x.rm ∈ ps)
  | [], b, h, hne => by
    cases b with
    | none => rcases hne with z | z <;> exact absurd rfl z
    | some y => exact ⟨y, rfl, (h y rfl).1, (h y rfl).2, .inl ⟨y, rfl, rfl⟩⟩
  | r :: ps, b, h, _ => by
    have hq : ∃ z, pickM f nm b r = some z ∧ z.nm = nm ∧ z.st = f z.rm ∧ ((∃ y, b = some y ∧ z = y) ∨ z.rm = r) := by
      unfold pickM
      cases b with
      | none => exact ⟨_, rfl, rfl, rfl, .inr rfl⟩
      | some y =>
        dsimp only
        split
        · exact ⟨_, rfl, rfl, rfl, .inr rfl⟩
        · exact ⟨y, rfl, (h y rfl).1, (h y rfl).2, .inl ⟨y, rfl, rfl⟩⟩
    obtain ⟨z, e, z1, z2, z3⟩ := hq
    rw [List.foldl_cons, e]
    obtain ⟨x, ex, x1, x2, x3⟩ := pick_nm ps (some z) (fun x hx => by cases hx; exact ⟨z1, z2⟩) (.inl fun y => nomatch y)
    refine ⟨x, ex, x1, x2, ?_⟩
    rcases x3 with ⟨y, hy, rfl⟩ | x3
    · cases hy
      rcases z3 with z3 | z3
      · exact .inl z3
      · exact .inr (by rw [z3]; exact List.mem_cons_self)
    · exact .inr (List.mem_cons_of_mem _ x3)
theorem put_is {cs : List Cs} (rows : List Rw) {nm : Str} (h : (getC cs nm).pl ≠ []) : (putM cs rows nm).nm = nm ∧ (putM cs rows nm).rm ∈ (getC cs nm).pl ∧ (putM cs rows nm).st = freeM cs rows (getC cs nm) (putM cs rows nm).rm := by
  obtain ⟨x, e, x1, x2, x3⟩ := pick_nm (f := freeM cs rows (getC cs nm)) (nm := nm) (getC cs nm).pl none (fun _ z => nomatch z) (.inr h)
  unfold putM
  rw [e]
  refine ⟨x1, ?_, x2⟩
  rcases x3 with ⟨y, hy, _⟩ | x3
  · cases hy
  · exact x3
theorem bgn_ge {st : Int} {es : List Int} : st ≤ bgn st es ∧ ∀ y ∈ es, y ≤ bgn st es := by
  unfold bgn
  induction es generalizing st with
  | nil => exact ⟨Int.le_refl _, fun _ z => nomatch z⟩
  | cons x es ih =>
    obtain ⟨a, b⟩ := ih (st := max st x)
    rw [List.foldl_cons]
    refine ⟨by omega, fun y hy => ?_⟩
    rcases List.mem_cons.mp hy with z | z
    · rw [z]; omega
    · exact b y z
/-- the pair of the least start and its room -/
def encPr (f : Int → Int) (r : Int) : D := .tuple [.int (f r), .int r]
theorem lt_pr (f : Int → Int) (r q : Int) : PySem.W.dataLt (encPr f r) (encPr f q) = decide (f r < f q ∨ (f r = f q ∧ r < q)) := PySem.W.dataLt_ii _ _ _ _
theorem upI_lt {ps : List Int} (h : UpI ps) : ps.Pairwise (· < ·) := by
  obtain ⟨nd, so⟩ := h
  have nd2 : ps.Pairwise (· ≠ ·) := List.Pairwise.of_map (Sum.inl : Int → Key) (fun a b hne e => hne (congrArg _ e)) nd
  have so2 : ps.Pairwise (fun a b => a ≤ b) := by
    refine List.Pairwise.of_map (Sum.inl : Int → Key) (fun a b hab => ?_) so
    have e : PySem.W.dataLe false kD (Sum.inl a) (Sum.inl b) = decide (a ≤ b) := by
      show (!PySem.W.dataLt (.int b) (.int a)) = _
      rw [PySem.W.dataLt_int, PySem.W.not_lt_int]
    rw [e] at hab
    exact of_decide_eq_true hab
  have := nd2.and so2
  exact this.imp fun ⟨a, b⟩ => by omega
theorem min_pick {f : Int → Int} {nm : Str} : ∀ (ps : List Int) (q : Int), (q :: ps).Pairwise (· < ·) → ∃ x, ps.foldl (pickM f nm) (some ⟨f q, nm, q⟩) = some x ∧ (ps.map (encPr f)).foldl (fun a y => if PySem.W.dataLt y a then y else a) (encPr f q) = .tuple [.int x.st, .int x.rm]
  | [], q, _ => ⟨_, rfl, rfl⟩
  | r :: ps, q, h => by
    have hq := List.pairwise_cons.mp h
    have lt : q < r := hq.1 r List.mem_cons_self
    rw [List.foldl_cons, List.map_cons, List.foldl_cons, lt_pr]
    by_cases e : f r < f q
    · rw [decide_eq_true (.inl e)]
      have e2 : pickM f nm (some ⟨f q, nm, q⟩) r = some ⟨f r, nm, r⟩ := by
        show (if f r < f q then _ else _) = _
        rw [if_pos e]
      rw [e2]
      exact min_pick ps r hq.2
    · rw [decide_eq_false (by omega)]
      have e2 : pickM f nm (some ⟨f q, nm, q⟩) r = some ⟨f q, nm, q⟩ := by
        show (if f r < f q then _ else _) = _
        rw [if_neg e]
      rw [e2]
      exact min_pick ps q (List.pairwise_cons.mpr ⟨fun y hy => hq.1 y (List.mem_cons_of_mem _ hy), (List.pairwise_cons.mp hq.2).2⟩)
def Rfree_from : RSpec := fun ss g post => ∃ cs rows c room, ss = [.d (dct (dictC cs)), .d (.list (rows.map encR)), .d (encC c), .d (.int room)] ∧ g = [] ∧ OkP cs rows ∧ (∀ c ∈ cs, c.tm.length ≤ 1000) ∧ post (.int (freeM cs rows c room)) []
def Rplan_by : RSpec := fun ss g post => ∃ cs order, ss = [.d (encCs cs), .d (.tuple (order.map PyData.str))] ∧ g = [] ∧ OkO cs order ∧ post (encP (planM cs order)) []
def R_law_plan_by : RSpec := Rplan_by
/-- what stands so far of an order -/
theorem rows_nm0 {cs : List Cs} : ∀ (order : List Str) (rows : List Rw), (∀ nm ∈ order, (getC cs nm).pl ≠ []) → (order.foldl (fun rows nm => rows ++ [putM cs rows nm]) rows).map (·.nm) = rows.map (·.nm) ++ order
  | [], rows, _ => (List.append_nil _).symm
  | a :: l, rows, h => by
    rw [List.foldl_cons, rows_nm0 l _ fun nm hn => h nm (List.mem_cons_of_mem _ hn), List.map_append]
    show _ ++ [(putM cs rows a).nm] ++ l = _
    rw [(put_is rows (h a List.mem_cons_self)).1, List.append_assoc]
    rfl
theorem rows_nm {cs : List Cs} (order : List Str) (h : ∀ nm ∈ order, (getC cs nm).pl ≠ []) : (rowsM cs order).map (·.nm) = order := rows_nm0 order [] h
theorem OkO.get {cs : List Cs} {order : List Str} (ok : OkO cs order) {nm : Str} (h : nm ∈ order) : getC cs nm ∈ cs ∧ (getC cs nm).nm = nm := by
  obtain ⟨c, hc, e⟩ := List.mem_map.mp (ok.pm.mem_iff.mp h)
  subst e
  rw [getC_of ok.nd hc]
  exact ⟨hc, rfl⟩
theorem OkO.rowsOk {cs : List Cs} {order : List Str} (ok : OkO cs order) {pre : List Str} (hp : ∃ suf, order = pre ++ suf) : OkP cs (rowsM cs pre) := by
  obtain ⟨suf, e⟩ := hp
  have hm : ∀ nm ∈ pre, nm ∈ order := fun nm hn => by rw [e]; exact List.mem_append_left _ hn
  have hn := rows_nm (cs := cs) pre fun nm hn => ok.p0 _ (ok.get (hm nm hn)).1
  have ln : (rowsM cs pre).length = pre.length := by
    have := congrArg List.length hn
    rw [List.length_map] at this
    exact this
  have lo : order.length = cs.length := by
    have := ok.pm.length_eq
    rw [List.length_map] at this
    exact this
  refine ⟨ok.nd, ok.l8, ?_, fun r hr => ?_, ok.okn, ok.okt⟩
  · rw [ln]
    have : pre.length ≤ order.length := by rw [e, List.length_append]; omega
    have := ok.l8
    omega
  · have : r.nm ∈ pre := by rw [← hn]; exact List.mem_map.mpr ⟨r, hr, rfl⟩
    obtain ⟨h1, h2⟩ := ok.get (hm _ this)
    exact ⟨_, h1, h2⟩
section
variable {K : PySem.W.Frag} {wd : PySem.World} {n : Nat} {ρ ts : List SV} {g : List Cell}
def tfree_from (K : PySem.W.Frag) (wd : PySem.World) : TS := (tSeq (tAsg (tLc (iList K (tVar 1)) (gTup K 3 (gCons (gName 5) (gCons (gName 6) (gCons (gName 7) gNil)))) (tOr (tTest (tOp (rEqD K) (tVar 7) (tVar 3))) (tB (tCall (spOf K Rshare_somebody) [] E0 (tCons (tDGet (tVar 0) (tVar 6)) (tCons (tVar 2) tNil))))) (tOp (rAddA K) (tVar 5) (tOp (rIx K) (tDGet (tVar 0) (tVar 6)) (tC (.int 1)))) [5, 6, 7]) (gName 4)) (tRet (tCB (rMax K) (tCons (tOp (rAddA K) (tLst (tCons (tOp (rIx K) (tVar 2) (tC (.int 5))) tNil)) (tVar 4)) tNil))))
def encEU (cs : List Cs) (o : Rw) : D := .int (endU cs o)
theorem go_free_from (ss : List SV) (g : List Cell) (post : D → List Cell → Prop) (h : Rfree_from ss g post) : GoS K g.length (tfree_from K wd) (ss ++ List.replicate (8 - ss.length) .no) g (KF g.length post) := by
  obtain ⟨cs, rows, c, room, rfl, rfl, ok, okl, p⟩ := h
  unfold tfree_from
  have l8 := ok.lp
  refine gs_seq (gs_asgD (gd_filT encR (encEU cs) (fun o => o.rm == room || share (getC cs o.nm) c) mg3 (ij3 (by simp) (by simp) (by simp)) (gi_list (gd_var rfl ⟨_, rfl, rows, rfl, by omega, fun i r hr => gg3 ?_, ?_⟩))))
  · have mr : r ∈ rows := List.mem_of_getElem? hr
    have el : GoD K 0 (tOp (rAddA K) (tVar 5) (tOp (rIx K) (tDGet (tVar 0) (tVar 6)) (tC (.int 1)))) [.d (dct (dictC cs)), .d (.list (rows.map encR)), .d (encC c), .d (.int room), .no, .d (.int r.st), .d (.str r.nm), .d (.int r.rm)] [] [] fun e g2 => g2 = [] ∧ e = encEU cs r := by
      refine gd_op (gd_var rfl (gd_op (gd_dget (gd_var rfl ⟨_, rfl, gd_var rfl ⟨.inr r.nm, _, rfl, lk_dictC ok mr, gd_int (opd_ixT (d := .int (getC cs r.nm).us) rfl (opd_addI ⟨rfl, rfl⟩))⟩⟩))))
    refine gt_or (gt_test (gd_op (gd_var rfl (gd_var rfl (opd_eq rfl rfl ⟨_, rfl, fun hb => ?_, fun hb => ⟨rfl, ?_, el⟩⟩)))))
    · refine gt_B (gd_call (gs_cons (gd_dget (gd_var rfl ⟨_, rfl, gd_var rfl ⟨.inr r.nm, _, rfl, lk_dictC ok mr, gs_cons (gd_var rfl (gs_nil ⟨getC cs r.nm, c, rfl, rfl, okl _ (ok.get mr).1, _, rfl, rfl, ?_, el⟩))⟩⟩))))
      have : (r.rm == room) = false := hb
      rw [this]
      rfl
    · have : (r.rm == room) = true := hb
      rw [this]
      rfl
  · refine gs_ret (gd_cb (r := rMax K) (gs_cons (gd_op (gd_lst (gs_cons (gd_op (gd_var rfl (gd_int (opd_ixT (d := .int c.fi) rfl (gs_nil ⟨by show 1 ≤ 100000; decide, gd_var rfl ?_⟩))))))))))
    have fl : (rows.filter fun o => o.rm == room || share (getC cs o.nm) c).length ≤ 8 := Nat.le_trans (List.length_filter_le _ _) l8
    refine opd_addL (by rw [List.length_map]; show 1 + _ ≤ 100000; omega) ?_
    have e : [PyData.int c.fi] ++ (rows.filter fun o => o.rm == room || share (getC cs o.nm) c).map (encEU cs) = (c.fi :: (rows.filter fun o => o.rm == room || share (getC cs o.nm) c).map (endU cs)).map PyData.int := by
      rw [List.map_cons, List.map_map]
      rfl
    rw [e]
    refine gs_nil (opd_maxL (by simp) fun m h1 h2 => ⟨_, rfl, ?_⟩)
    rw [bgn_max h1 h2]
    exact p
def tplan_by (K : PySem.W.Frag) (wd : PySem.World) : TS := (tSeq (tAsg (tCall (spOf K Rby_names) [] E0 (tCons (tVar 0) tNil)) (gName 2)) (tSeq (tAsg (tLst tNil) (gName 3)) (tSeq (tFor (iTup K (tVar 1)) (gName 4) (tSeq (tAsg (tDGet (tVar 2) (tVar 4)) (gName 5)) (tSeq (tAsg (tCB (rMinD K) (tCons (tLc (iTup K (tOp (rIx K) (tVar 5) (tC (.int 4)))) (gName 8) tYes (tTup (tCons (tCall (spOf K Rfree_from) [] E0 (tCons (tVar 2) (tCons (tVar 3) (tCons (tVar 5) (tCons (tVar 8) tNil))))) (tCons (tVar 8) tNil))) [8]) tNil)) (gTup K 2 (gCons (gName 6) (gCons (gName 7) gNil)))) (tDrop (tBM K "list" rAppend (tVar 3) (tCons (tTup (tCons (tVar 6) (tCons (tVar 4) (tCons (tVar 7) tNil)))) tNil)))))) (tRet (tCB (rTupleA K) (tCons (tCB (rSortedA K wd) (tCons (tVar 3) tNil)) tNil))))))
theorem lk_name {cs : List Cs} {order : List Str} (ok : OkO cs order) {nm : Str} (h : nm ∈ order) : lk (dictC cs) (.inr nm) = some (encC (getC cs nm)) := by
  obtain ⟨a, b⟩ := ok.get h
  have okp : OkP cs [⟨0, nm, 0⟩] := ⟨ok.nd, ok.l8, by show 1 ≤ 8; decide, fun r hr => by rw [List.mem_singleton] at hr; rw [hr]; exact ⟨_, a, b⟩, ok.okn, ok.okt⟩
  exact lk_dictC okp (List.mem_singleton.mpr rfl)
theorem minD_put {cs : List Cs} {rows : List Rw} {nm : Str} {p0 : Int} {ps : List Int} (e : (getC cs nm).pl = p0 :: ps) (up : UpI (getC cs nm).pl) : PySem.W.minD (encPr (freeM cs rows (getC cs nm)) p0) (ps.map (encPr (freeM cs rows (getC cs nm)))) = .tuple [.int (putM cs rows nm).st, .int (putM cs rows nm).rm] := by
  have hp := upI_lt up
  rw [e] at hp
  obtain ⟨x, h1, h2⟩ := min_pick (f := freeM cs rows (getC cs nm)) (nm := nm) ps p0 hp
  unfold PySem.W.minD
  rw [h2]
  have : putM cs rows nm = x := by
    unfold putM
    rw [e, List.foldl_cons]
    show (List.foldl _ (some ⟨_, nm, p0⟩) ps).getD default = x
    rw [h1]
    rfl
  rw [this]
theorem sorted_rows {rs : List Rw} {post : D → Prop} (h : ∀ r ∈ rs, okS r.nm) (p : post (.list ((rs.mergeSort (PySem.W.dataLe false encR)).map encR))) : OpD K (rSortedA K wd) [.list (rs.map encR)] post := by
  refine opd_sorted (alike_rows rs) (PySem.W.Sortable.tuples fun r => ⟨_, _, rfl⟩) (fun d hd => ?_) ?_
  · obtain ⟨r, hr, rfl⟩ := List.mem_map.mp hd
    exact ⟨lay_row (h r hr), depth_row r⟩
  · rw [sort_rows]
    exact p
theorem at_split {order : List Str} {i : Nat} {nm : Str} (h : order[i]? = some nm) : order.take (i + 1) = order.take i ++ [nm] := by
  rw [List.take_add_one, h]
  rfl
theorem go_plan_by (ss : List SV) (g : List Cell) (post : D → List Cell → Prop) (h : Rplan_by ss g post) : GoS K g.length (tplan_by K wd) (ss ++ List.replicate (9 - ss.length) .no) g (KF g.length post) := by
  obtain ⟨cs, order, rfl, rfl, ok, p⟩ := h
  unfold tplan_by
  have l8 := ok.l8
  refine gs_seq (gs_asgD (gd_call (gs_cons (gd_var rfl (gs_nil ⟨cs, rfl, rfl, l8, ?_⟩)))))
  refine gs_seq (gs_asg (ge_lstC (gs_nil ⟨by decide, ?_⟩)))
  refine gs_seq (gs_for (gi_tup (gd_var rfl ⟨_, rfl, ?_⟩)))
  refine ⟨fun i ρ g => ∃ (x4 x5 x6 x7 : SV), ρ = [.d (encCs cs), .d (.tuple (order.map PyData.str)), .d (dct (dictC cs)), .c 0, x4, x5, x6, x7, .no] ∧ g = [some ((rowsM cs (order.take i)).map encR)], ⟨.no, .no, .no, .no, rfl, rfl⟩, fun i d ρ' g' hi ⟨x4, x5, x6, x7, e1, e2⟩ _ => ?_, fun ρ' g' ⟨x4, x5, x6, x7, e1, e2⟩ _ => ?_⟩
  · subst e1 e2
    obtain ⟨nm, hnm, rfl⟩ := at_map hi
    have mo : nm ∈ order := List.mem_of_getElem? hnm
    obtain ⟨gc, gn⟩ := ok.get mo
    have okp : OkP cs (rowsM cs (order.take i)) := ok.rowsOk ⟨order.drop i, (List.take_append_drop i order).symm⟩
    generalize hR : rowsM cs (order.take i) = rows at okp
    have hR2 : rowsM cs (order.take (i + 1)) = rows ++ [putM cs rows nm] := by rw [at_split hnm, rows_snoc, hR]
    refine gg_name (gs_seq (gs_asgD (gd_dget (gd_var rfl ⟨_, rfl, gd_var rfl ⟨.inr nm, _, rfl, lk_name ok mo, ?_⟩⟩))))
    cases epl : (getC cs nm).pl with
    | nil => exact absurd epl (ok.p0 _ gc)
    | cons p0 ps =>
      have pl1 := ok.pn _ gc
      refine gs_seq (gs_asgG (gd_cb (r := rMinD K) (gs_cons (gd_mapT PyData.int (encPr (freeM cs rows (getC cs nm))) mg_name (ij_name (by simp)) (gi_tup (gd_op (gd_var rfl (gd_int (opd_ixT (d := .tuple ((getC cs nm).pl.map PyData.int)) rfl ⟨_, rfl, (getC cs nm).pl, rfl, by omega, fun k r hr => gg_name ?_, ?_⟩)))))))))
      · refine gd_tup (gs_cons (gd_callRO (ga_cons (ge_var rfl (fun z => nomatch z) (ga_cons (ge_var rfl (fun z => nomatch z) (ga_cons (ge_var rfl (fun z => nomatch z) (ga_cons (ge_var rfl (fun z => nomatch z) (ga_nil ⟨0, rows.map encR, rfl, cs, rows, getC cs nm, r, rfl, rfl, okp, ok.tl, rfl, ?_⟩)))))))))))
        refine gs_cons (gd_var rfl (gs_nil ⟨by show 2 ≤ 100000; decide, rfl, rfl⟩))
      · rw [epl, List.map_cons]
        refine gs_nil (opd_minD ?_ ?_ ?_ ?_)
        · refine ⟨fun a ha b hb => ?_, fun a ha => ?_⟩
          · rw [← List.map_cons] at ha hb
            obtain ⟨x, _, rfl⟩ := List.mem_map.mp ha
            obtain ⟨y, _, rfl⟩ := List.mem_map.mp hb
            simp [encPr, PySem.W.alike, PySem.W.alikeAll]
          · rw [← List.map_cons] at ha
            obtain ⟨x, _, rfl⟩ := List.mem_map.mp ha
            exact fun z => nomatch z
        · rw [← List.map_cons]
          exact depL _ fun a _ => by simp [encPr, PyData.depth, PyData.depthAll]
        · rw [← List.map_cons]
          exact layL _ fun a _ => by simp [encPr, PyData.canLay0, PyData.canLayAll0]
        rw [minD_put epl (ok.pu _ gc)]
        refine gg2 ?_
        refine gs_app (ge_var rfl (fun z => nomatch z) ⟨0, _, rfl, rfl, ?_⟩)
        refine gd_tup (gs_cons (gd_var rfl (gs_cons (gd_var rfl (gs_cons (gd_var rfl (gs_nil ⟨by show 3 ≤ 100000; decide, ?_⟩)))))))
        refine ⟨_, rfl, by rw [List.length_map]; have := okp.lp; omega, _, _, _, _, rfl, ?_⟩
        rw [hR2, List.map_append]
        have : encR (putM cs rows nm) = .tuple [.int (putM cs rows nm).st, .str nm, .int (putM cs rows nm).rm] := by
          have e := (put_is rows (ok.p0 _ gc)).1
          unfold encR
          rw [e]
        show [some (rows.map encR ++ [_])] = [some (rows.map encR ++ [encR (putM cs rows nm)])]
        rw [this]
  · subst e1 e2
    rw [List.length_map, List.take_length]
    have okp : OkP cs (rowsM cs order) := ok.rowsOk ⟨[], (List.append_nil _).symm⟩
    refine gs_ret (gd_cb (r := rTupleA K) (gs_cons (gd_cb (r := rSortedA K wd) (gs_cons (gd_give (ge_var rfl (fun z => nomatch z) ⟨0, _, rfl, Nat.zero_le _, rfl, gs_nil (sorted_rows (fun r hr => ?_) (gs_nil (opd_tupleL ⟨_, rfl, p⟩)))⟩))))))
    obtain ⟨c, hc, e⟩ := okp.mem r hr
    rw [← e]
    exact ok.okn c hc
end
end Go
namespace Go
open PySem PySem.Spec PyProof.Rows L2 SetMix ZipE
local macro_rules | `(tactic| walk_at "g") => `(tactic| first
  | ((with_reducible refine gd_var (d := ?dd) ?hv ?_); (case hv => exact rfl))
  | ((with_reducible refine gd_ixScr (ns := ?ns) ?hv ?_); (case hv => exact rfl))
  | ((with_reducible refine gd_ixCel (j := ?jj) ?hv ?_); (case hv => exact rfl))
  | ((with_reducible refine gd_lenScr (ns := ?ns) ?hv ?_); (case hv => exact rfl))
  | with_reducible first
    | refine gs_seq ?_ | refine gs_next ?_ | refine gs_ret ?_ | refine gs_asgD ?_ | refine gs_if ?_
    | refine gt_test ?_ | refine gt_B ?_ | refine gt_and ?_ | refine gt_or ?_ | refine gt_not ?_ | refine gt_yes ?_
    | refine gd_int ?_ | refine gd_str ?_ | refine gd_bl ?_ | refine gd_non ?_
    | refine gd_op ?_ | refine gd_tup ?_ | refine gd_lst ?_
    | refine gd_cb (r := rLenA _) ?_ | refine gd_cb (r := rTupleA _) ?_ | refine gd_cb (r := rAbsA) ?_ | refine gd_cb (r := rMax2A) ?_ | refine gd_cb (r := rMin2A) ?_ | refine gd_cb (r := rIntA) ?_ | refine gd_cb (r := rAny _) ?_ | refine gd_cb (r := rAll _) ?_ | refine gd_cb (r := rDictP _) ?_ | refine gd_cb (r := rMax _) ?_ | refine gd_cb (r := rMin _) ?_
    | refine gs_cons ?_ | refine gs_nil ?_ | refine gd_dget ?_
    | refine gd_and ?_ | refine gd_or ?_ | refine gd_not ?_
    | refine opd_addI ?_ | refine opd_sub ?_ | refine opd_lt ?_ | refine opd_le ?_ | refine opd_gt ?_ | refine opd_ge ?_
    | refine opd_lenL ?_ | refine opd_lenT ?_ | refine opd_tupleL ?_ | refine opd_tupleT ?_ | refine opd_max2 ?_ | refine opd_min2 ?_ | refine opd_abs ?_ | refine opd_intB ?_
    | refine Exists.intro _ (And.intro rfl ?_))
def R_law_mixed : RSpec := fun ss g post => ∃ (b ds : List D), ss = [.c 0, .d (.list ds)] ∧ g = [some b] ∧ Bag b ∧ ds.length ≤ 1000 ∧ ∀ es b', es.Perm ds → Bag b' → post (.tuple es) [some b']
theorem ins_perm {α : Type} (xs : List α) (y : α) (i : Nat) : (xs.take i ++ [y] ++ xs.drop i).Perm (xs ++ [y]) := by
  have h : (xs.take i ++ [y] ++ xs.drop i).Perm (xs.take i ++ xs.drop i ++ [y]) := by
    rw [List.append_assoc, List.append_assoc]
    exact (List.perm_append_comm).append_left _
  rw [List.take_append_drop] at h
  exact h
theorem free_snoc (cs : List Cs) (rows : List Rw) (o : Rw) (c : Cs) (room : Int) : freeM cs (rows ++ [o]) c room = if (o.rm == room || share (getC cs o.nm) c) = true then max (freeM cs rows c room) (endU cs o) else freeM cs rows c room := by
  unfold freeM
  rw [List.filter_append, List.filter_cons]
  by_cases h : (o.rm == room || share (getC cs o.nm) c) = true
  · rw [if_pos h, if_pos h, List.map_append, List.filter_nil]
    unfold bgn
    rw [List.foldl_append]
    rfl
  · rw [if_neg h, if_neg h, List.filter_nil, List.append_nil]
theorem max_if2 (a b : Int) : (if b > a then b else a) = max a b := by
  by_cases h : b > a
  · rw [if_pos h]; omega
  · rw [if_neg h]; omega
section
variable {K : PySem.W.Frag} {wd : PySem.World} {n : Nat} {ρ ts : List SV} {g : List Cell}
def t_law_mixed (K : PySem.W.Frag) (wd : PySem.World) : TS := (tSeq (tAsg (tLst tNil) (gName 2)) (tSeq (tFor (iList K (tVar 1)) (gName 3) (tDrop (tBM K "list" rInsert (tVar 2) (tCons (tCall (spOf K R_law_take) [] E0 (tCons (tVar 0) (tCons (tOp (rAddA K) (tCB (rLenA K) (tCons (tVar 2) tNil)) (tC (.int 1))) tNil))) (tCons (tVar 3) tNil))))) (tRet (tCB (rTupleA K) (tCons (tVar 2) tNil)))))
theorem go_law_mixed (ss : List SV) (g : List Cell) (post : D → List Cell → Prop) (h : R_law_mixed ss g post) : GoS K g.length (t_law_mixed K wd) (ss ++ List.replicate (4 - ss.length) .no) g (KF g.length post) := by
  obtain ⟨b, ds, rfl, rfl, hb, hl, p⟩ := h
  unfold t_law_mixed
  refine gs_seq (gs_asg (ge_lstC (gs_nil ⟨by decide, ?_⟩)))
  refine gs_seq (gs_for (gi_list (gd_var rfl ⟨_, rfl, ?_⟩)))
  refine ⟨fun i ρ g => ∃ (b es : List D) (x : SV), ρ = [.c 0, .d (.list ds), .c 1, x] ∧ g = [some b, some es] ∧ Bag b ∧ es.Perm (ds.take i), ⟨b, [], .no, rfl, rfl, hb, .nil⟩, fun i d ρ' g' hi ⟨b, es, x, e1, e2, hb, pm⟩ _ => ?_, fun ρ' g' ⟨b, es, x, e1, e2, hb, pm⟩ _ => ?_⟩
  · subst e1 e2
    have li : i < ds.length := (List.getElem?_eq_some_iff.mp hi).1
    have le : es.length ≤ 1000 := by
      rw [pm.length_eq, List.length_take]
      omega
    refine gg_name (gs_ins (ge_var rfl (fun z => nomatch z) ⟨1, es, rfl, rfl, ?_⟩))
    refine gs_cons (gd_take rfl (gd_op (gd_lenCel rfl rfl (gd_int (opd_addI ⟨_, b, rfl, rfl, hb, by omega, by omega, fun m b1 m0 m1 hb1 => gs_cons (gd_var rfl (gs_nil ⟨m, d, es, rfl, rfl, by omega, m0, by omega, ?_⟩))⟩)))))
    refine ⟨b1, _, .d d, rfl, rfl, hb1, ?_⟩
    have tk : ds.take (i + 1) = ds.take i ++ [d] := by
      rw [List.take_add_one, hi]
      rfl
    rw [tk]
    exact (ins_perm es d m.toNat).trans (pm.append_right [d])
  · subst e1 e2
    rw [List.take_length] at pm
    refine gs_ret (gd_cb (r := rTupleA K) (gs_cons (gd_give (ge_var rfl (fun z => nomatch z) ⟨1, es, rfl, Nat.le_refl 1, rfl, gs_nil (opd_tupleL ⟨_, rfl, p es b pm hb⟩)⟩))))
def t_law_plan_by (K : PySem.W.Frag) (wd : PySem.World) : TS := (tSeq (tAsg (tCB (rDictP K) (tCons (tLc (iTup K (tVar 0)) (gName 5) tYes (tTup (tCons (tOp (rIx K) (tVar 5) (tC (.int 0))) (tCons (tVar 5) tNil))) [5]) tNil)) (gName 2)) (tSeq (tAsg (tLst tNil) (gName 3)) (tSeq (tFor (iTup K (tVar 1)) (gName 4) (tSeq (tAsg (tDGet (tVar 2) (tVar 4)) (gName 5)) (tSeq (tAsg (tC .non) (gName 6)) (tSeq (tFor (iTup K (tOp (rIx K) (tVar 5) (tC (.int 4)))) (gName 7) (tSeq (tAsg (tOp (rIx K) (tVar 5) (tC (.int 5))) (gName 8)) (tSeq (tFor (iList K (tVar 3)) (gName 9) (tSeq (tAsg (tLc (iTup K (tOp (rIx K) (tVar 5) (tC (.int 3)))) (gName 11) (tTest (tOp (rIn K false) (tVar 11) (tOp (rIx K) (tDGet (tVar 2) (tOp (rIx K) (tVar 9) (tC (.int 1)))) (tC (.int 3))))) (tVar 11) [11]) (gName 10)) (tIfS (tOr (tTest (tOp (rEqD K) (tOp (rIx K) (tVar 9) (tC (.int 2))) (tVar 7))) (tTest (tOp (rNeD K) (tVar 10) (tLst tNil)))) (tAsg (tCB rMax2A (tCons (tVar 8) (tCons (tOp (rAddA K) (tOp (rIx K) (tVar 9) (tC (.int 0))) (tOp (rIx K) (tDGet (tVar 2) (tOp (rIx K) (tVar 9) (tC (.int 1)))) (tC (.int 1)))) tNil))) (gName 8)) tNext))) (tIfS (tOr (tTest (tOp rIsN0 (tVar 6) (tC .non))) (tTest (tOp (rI0 fun i j => V.bl (decide (i < j))) (tVar 8) (tOp (rIx K) (tVar 6) (tC (.int 0)))))) (tAsg (tTup (tCons (tVar 8) (tCons (tVar 4) (tCons (tVar 7) tNil)))) (gName 6)) tNext)))) (tDrop (tBM K "list" rAppend (tVar 3) (tCons (tVar 6) tNil))))))) (tRet (tCB (rTupleA K) (tCons (tCB (rSortedA K wd) (tCons (tVar 3) tNil)) tNil))))))
def encO (b : Option Rw) : D := match b with
  | none => .none
  | some r => encR r
theorem go_law_plan_by (ss : List SV) (g : List Cell) (post : D → List Cell → Prop) (h : R_law_plan_by ss g post) : GoS K g.length (t_law_plan_by K wd) (ss ++ List.replicate (12 - ss.length) .no) g (KF g.length post) := by
  obtain ⟨cs, order, rfl, rfl, ok, p⟩ := h
  unfold t_law_plan_by
  have l8 := ok.l8
  refine gs_seq (gs_asgD (gd_cb (r := rDictP K) (gs_cons (gd_mapT encC encCt mg_name (ij_name (by simp)) (gi_tup (gd_var rfl ⟨_, rfl, cs, rfl, by omega, fun i c hc => gg_name ?_, ?_⟩))))))
  · (repeat (walk_at "g"))
    refine opd_ixT (d := .str c.nm) rfl ?_
    (repeat (walk_at "g"))
    exact ⟨by show 2 ≤ 100000; decide, rfl, rfl⟩
  rw [enc_pr]
  refine gs_nil (opd_dict ?_)
  refine gs_seq (gs_asg (ge_lstC (gs_nil ⟨by decide, ?_⟩)))
  refine gs_seq (gs_for (gi_tup (gd_var rfl ⟨_, rfl, ?_⟩)))
  refine ⟨fun i ρ g => ∃ (x4 x5 x6 x7 x8 x9 y0 : SV), ρ = [.d (encCs cs), .d (.tuple (order.map PyData.str)), .d (dct (dictC cs)), .c 0, x4, x5, x6, x7, x8, x9, y0, .no] ∧ g = [some ((rowsM cs (order.take i)).map encR)], ⟨.no, .no, .no, .no, .no, .no, .no, rfl, rfl⟩, fun i d ρ' g' hi ⟨x4, x5, x6, x7, x8, x9, y0, e1, e2⟩ _ => ?_, fun ρ' g' ⟨x4, x5, x6, x7, x8, x9, y0, e1, e2⟩ _ => ?_⟩
  · subst e1 e2
    obtain ⟨nm, hnm, rfl⟩ := at_map hi
    have mo : nm ∈ order := List.mem_of_getElem? hnm
    obtain ⟨gc, gn⟩ := ok.get mo
    have okp : OkP cs (rowsM cs (order.take i)) := ok.rowsOk ⟨order.drop i, (List.take_append_drop i order).symm⟩
    generalize hR : rowsM cs (order.take i) = rows at okp
    have hR2 : rowsM cs (order.take (i + 1)) = rows ++ [putM cs rows nm] := by rw [at_split hnm, rows_snoc, hR]
    refine gg_name (gs_seq (gs_asgD (gd_dget (gd_var rfl ⟨_, rfl, gd_var rfl ⟨.inr nm, _, rfl, lk_name ok mo, ?_⟩⟩))))
    refine gs_seq (gs_asgD (gd_non ?_))
    have pl1 := ok.pn _ gc
    have lr := okp.lp
    refine gs_seq (gs_for (gi_tup (gd_op (gd_var rfl (gd_int (opd_ixT (d := .tuple ((getC cs nm).pl.map PyData.int)) rfl ⟨_, rfl, ?_⟩))))))
    refine ⟨fun j ρ g => ∃ (x7 x8 x9 y0 : SV), ρ = [.d (encCs cs), .d (.tuple (order.map PyData.str)), .d (dct (dictC cs)), .c 0, .d (.str nm), .d (encC (getC cs nm)), .d (encO (((getC cs nm).pl.take j).foldl (pickM (freeM cs rows (getC cs nm)) nm) none)), x7, x8, x9, y0, .no] ∧ g = [some (rows.map encR)], ⟨x7, x8, x9, y0, rfl, rfl⟩, fun j d ρ' g' hj ⟨x7, x8, x9, y0, e1, e2⟩ _ => ?_, fun ρ' g' ⟨x7, x8, x9, y0, e1, e2⟩ _ => ?_⟩
    · subst e1 e2
      obtain ⟨room, hroom, rfl⟩ := at_map hj
      have tk : ((getC cs nm).pl.take (j + 1)).foldl (pickM (freeM cs rows (getC cs nm)) nm) none = pickM (freeM cs rows (getC cs nm)) nm (((getC cs nm).pl.take j).foldl (pickM (freeM cs rows (getC cs nm)) nm) none) room := by
        rw [List.take_add_one, hroom, List.foldl_append]
        rfl
      refine gg_name (gs_seq (gs_asgD (gd_op (gd_var rfl (gd_int (opd_ixT (d := .int (getC cs nm).fi) rfl ?_))))))
      generalize hB : ((getC cs nm).pl.take j).foldl (pickM (freeM cs rows (getC cs nm)) nm) none = best at tk
      refine gs_seq (gs_forC (items := rows.map encR) rfl (fun k ρ g => ∃ (x9 y0 : SV), ρ = [.d (encCs cs), .d (.tuple (order.map PyData.str)), .d (dct (dictC cs)), .c 0, .d (.str nm), .d (encC (getC cs nm)), .d (encO best), .d (.int room), .d (.int (freeM cs (rows.take k) (getC cs nm) room)), x9, y0, .no] ∧ g = [some (rows.map encR)]) ⟨x9, y0, rfl, rfl⟩ (fun k ρ' g' ⟨x9, y0, _, e⟩ => by rw [e]; rfl) (fun k d ρ' g' hk ⟨x9, y0, e1, e2⟩ _ => ?_) (fun ρ' g' ⟨x9, y0, e1, e2⟩ _ => ?_))
      · subst e1 e2
        obtain ⟨o, ho, rfl⟩ := at_map hk
        have om : o ∈ rows := List.mem_of_getElem? ho
        obtain ⟨oc, _⟩ := okp.get om
        have fk : freeM cs (rows.take (k + 1)) (getC cs nm) room = if (o.rm == room || share (getC cs o.nm) (getC cs nm)) = true then max (freeM cs (rows.take k) (getC cs nm) room) (endU cs o) else freeM cs (rows.take k) (getC cs nm) room := by
          rw [List.take_add_one, ho]
          exact free_snoc cs _ o _ room
        have tl1 := ok.tl _ gc
        refine gg_name (gs_seq (gs_asgD (gd_filT PyData.str PyData.str (fun p => (getC cs o.nm).tm.any fun q => q == p) mg_name (ij_name (by simp)) (gi_tup (gd_op (gd_var rfl (gd_int (opd_ixT (d := .tuple ((getC cs nm).tm.map PyData.str)) rfl ⟨_, rfl, (getC cs nm).tm, rfl, by omega, fun q a ha => gg_name ?_, ?_⟩))))))))
        · refine gt_test (gd_op (gd_var rfl (gd_op (gd_dget (gd_var rfl ⟨_, rfl, gd_op (gd_var rfl (gd_int (opd_ixT (d := .str o.nm) rfl ⟨.inr o.nm, _, rfl, lk_dictC okp om, gd_int (opd_ixT (d := .tuple ((getC cs o.nm).tm.map PyData.str)) rfl (opd_inT rfl (flat_strs _) ⟨_, rfl, rfl, ?_, gd_var rfl ⟨rfl, rfl⟩⟩))⟩)))⟩)))))
          rw [any_team]
          rfl
        have okb : ∀ x ∈ (getC cs nm).tm.filter (fun p => (getC cs o.nm).tm.any fun q => q == p), okS x := fun x hx => ok.okt _ gc x (List.mem_filter.mp hx).1
        have shr : (decide ((getC cs nm).tm.filter (fun p => (getC cs o.nm).tm.any fun q => q == p) = [])) = !(share (getC cs o.nm) (getC cs nm)) := by
          rw [share_comm]
          unfold share
          cases z : (getC cs nm).tm.any fun p => (getC cs o.nm).tm.any fun q => q == p with
          | true => exact decide_eq_false ((filt_any _ _).mpr z)
          | false => exact decide_eq_true (Classical.byContradiction fun y => by rw [(filt_any _ _).mp y] at z; cases z)
        generalize hb : (getC cs nm).tm.filter (fun p => (getC cs o.nm).tm.any fun q => q == p) = both at okb shr
        have yes : ∀ {κ : Ks} {s7 : SV}, (o.rm == room || share (getC cs o.nm) (getC cs nm)) = true → (∀ (x9 y0 : SV), κ.nx [.d (encCs cs), .d (.tuple (order.map PyData.str)), .d (dct (dictC cs)), .c 0, .d (.str nm), .d (encC (getC cs nm)), .d (encO best), s7, .d (.int (freeM cs (rows.take (k + 1)) (getC cs nm) room)), x9, y0, .no] [some (rows.map encR)]) → GoS K 1 (tAsg (tCB rMax2A (tCons (tVar 8) (tCons (tOp (rAddA K) (tOp (rIx K) (tVar 9) (tC (.int 0))) (tOp (rIx K) (tDGet (tVar 2) (tOp (rIx K) (tVar 9) (tC (.int 1)))) (tC (.int 1)))) tNil))) (gName 8)) [.d (encCs cs), .d (.tuple (order.map PyData.str)), .d (dct (dictC cs)), .c 0, .d (.str nm), .d (encC (getC cs nm)), .d (encO best), s7, .d (.int (freeM cs (rows.take k) (getC cs nm) room)), .d (encR o), .d (.list (both.map PyData.str)), .no] [some (rows.map encR)] κ := fun {κ s7} hy hn => by
          refine gs_asgD (gd_cb (r := rMax2A) (gs_cons (gd_var rfl (gs_cons (gd_op (gd_op (gd_var rfl (gd_int (opd_ixT (d := .int o.st) rfl (gd_op (gd_dget (gd_var rfl ⟨_, rfl, gd_op (gd_var rfl (gd_int (opd_ixT (d := .str o.nm) rfl ⟨.inr o.nm, _, rfl, lk_dictC okp om, gd_int (opd_ixT (d := .int (getC cs o.nm).us) rfl (opd_addI (gs_nil (opd_max2 ?_))))⟩)))⟩))))))))))))
          rw [max_if2]
          have : max (freeM cs (rows.take k) (getC cs nm) room) (o.st + (getC cs o.nm).us) = freeM cs (rows.take (k + 1)) (getC cs nm) room := by
            rw [fk, if_pos hy]
            rfl
          rw [this]
          exact hn _ _
        refine gs_if (gt_or (gt_test (gd_op (gd_op (gd_var rfl (gd_int (opd_ixT (d := .int o.rm) rfl (gd_var rfl (opd_eq rfl rfl ⟨_, rfl, fun he => ?_, fun he => ⟨fun _ => ?_, fun z => nomatch z⟩⟩)))))))))
        · have ne1 : (o.rm == room) = false := he
          refine gt_test (gd_op (gd_var rfl (gd_lst (gs_nil ⟨by decide, opd_ne (shaped_strsL okb) rfl ?_⟩))))
          rw [eqv_nilL, shr, Bool.not_not]
          refine ⟨_, rfl, fun hs => yes (by rw [hs, Bool.or_true]) fun x9 y0 => ⟨_, _, rfl, rfl⟩, fun hs => gs_next ⟨.d (encR o), .d (.list (both.map PyData.str)), ?_, rfl⟩⟩
          rw [fk, if_neg (by rw [ne1, hs]; decide)]
          rfl
        · have e1 : (o.rm == room) = true := he
          exact yes (by rw [e1, Bool.true_or]) fun x9 y0 => ⟨_, _, rfl, rfl⟩
      · subst e1 e2
        rw [List.length_map, List.take_length]
        have fin : ∀ {κ : Ks}, pickM (freeM cs rows (getC cs nm)) nm best room = some ⟨freeM cs rows (getC cs nm) room, nm, room⟩ → (κ.nx [.d (encCs cs), .d (.tuple (order.map PyData.str)), .d (dct (dictC cs)), .c 0, .d (.str nm), .d (encC (getC cs nm)), .d (encO (((getC cs nm).pl.take (j + 1)).foldl (pickM (freeM cs rows (getC cs nm)) nm) none)), .d (.int room), .d (.int (freeM cs rows (getC cs nm) room)), x9, y0, .no] [some (rows.map encR)]) → GoS K 1 (tAsg (tTup (tCons (tVar 8) (tCons (tVar 4) (tCons (tVar 7) tNil)))) (gName 6)) [.d (encCs cs), .d (.tuple (order.map PyData.str)), .d (dct (dictC cs)), .c 0, .d (.str nm), .d (encC (getC cs nm)), .d (encO best), .d (.int room), .d (.int (freeM cs rows (getC cs nm) room)), x9, y0, .no] [some (rows.map encR)] κ := fun {κ} e pp => by
          rw [tk, e] at pp
          exact gs_asgD (gd_tup (gs_cons (gd_var rfl (gs_cons (gd_var rfl (gs_cons (gd_var rfl (gs_nil ⟨by show 3 ≤ 100000; decide, pp⟩))))))))
        cases best with
        | none =>
          refine gs_if (gt_or (gt_test (gd_op (gd_var rfl (gd_non (opd_isN ⟨_, rfl, fun z => (nomatch z), fun _ => ⟨fun _ => fin rfl ⟨_, _, _, _, rfl, rfl⟩, fun z => nomatch z⟩⟩))))))
        | some r =>
          refine gs_if (gt_or (gt_test (gd_op (gd_var rfl (gd_non (opd_isN ⟨_, rfl, fun _ => ?_, fun z => nomatch z⟩))))))
          refine gt_test (gd_op (gd_var rfl (gd_op (gd_var rfl (gd_int (opd_ixT (d := .int r.st) rfl (opd_lt ⟨_, rfl, fun hb => ?_, fun hb => gs_next ⟨.d (.int room), .d (.int (freeM cs rows (getC cs nm) room)), cutV1 1 x9, cutV1 1 y0, ?_, rfl⟩⟩)))))))
          · have hlt := of_decide_eq_true hb
            exact fin (by show (if _ then _ else _) = _; rw [if_pos hlt]) ⟨_, _, _, _, rfl, rfl⟩
          · have hge := of_decide_eq_false hb
            rw [tk]
            have : pickM (freeM cs rows (getC cs nm)) nm (some r) room = some r := by
              show (if _ then _ else _) = _
              rw [if_neg hge]
            rw [this]
            rfl
    · subst e1 e2
      rw [List.length_map, List.take_length]
      have e : encO ((getC cs nm).pl.foldl (pickM (freeM cs rows (getC cs nm)) nm) none) = encR (putM cs rows nm) := by
        obtain ⟨x, ex, _⟩ := pick_nm (f := freeM cs rows (getC cs nm)) (nm := nm) (getC cs nm).pl none (fun _ z => nomatch z) (.inr (ok.p0 _ gc))
        unfold putM
        rw [ex]
        rfl
      rw [e]
      refine gs_app (ge_var rfl (fun z => nomatch z) ⟨0, _, rfl, rfl, gd_var rfl ⟨_, rfl, by rw [List.length_map]; omega, _, _, _, _, _, _, _, rfl, ?_⟩⟩)
      rw [hR2, List.map_append]
      rfl
  · subst e1 e2
    rw [List.length_map, List.take_length]
    have okp : OkP cs (rowsM cs order) := ok.rowsOk ⟨[], (List.append_nil _).symm⟩
    refine gs_ret (gd_cb (r := rTupleA K) (gs_cons (gd_cb (r := rSortedA K wd) (gs_cons (gd_give (ge_var rfl (fun z => nomatch z) ⟨0, _, rfl, Nat.zero_le _, rfl, gs_nil (sorted_rows (fun r hr => ?_) (gs_nil (opd_tupleL ⟨_, rfl, p⟩)))⟩))))))
    obtain ⟨c, hc, e⟩ := okp.mem r hr
    rw [← e]
    exact ok.okn c hc
end
end Go
namespace Go
open PySem PySem.Spec PyProof.Rows L2 SetMix ZipE
/-! ### the plan of an order is a plan, and smooth -/
theorem lt_row (a b : Rw) : PySem.W.dataLt (encR a) (encR b) = if a.st = b.st then (if a.nm = b.nm then decide (a.rm < b.rm) else decide (a.nm.cps.toList < b.nm.cps.toList)) else decide (a.st < b.st) := by
  unfold encR
  rw [PySem.W.dataLt_tuple, PySem.W.dataLt_cons (by simp [PySem.W.alike]), PySem.W.dataLt_cons (by simp [PySem.W.alike]), PySem.W.dataLt_cons (by simp [PySem.W.alike]), PySem.W.dataLt_int, PySem.W.dataLt_int, PySem.W.dataLt_str]
  have e : PyProof.Rows.lexLt itemOrd (PySem.W.keyToksAll []) (PySem.W.keyToksAll []) = false := lex_irrefl _
  rw [e]
  simp only [PyData.eqv, beq_iff_eq]
  by_cases h : a.rm = b.rm
  · rw [if_pos h, h]
    simp
  · rw [if_neg h]
theorem le_st {a b : Rw} (h : PySem.W.dataLe false encR a b = true) : a.st ≤ b.st := by
  have h2 : (!PySem.W.dataLt (encR b) (encR a)) = true := h
  rw [lt_row] at h2
  by_cases e : b.st = a.st
  · omega
  · rw [if_neg e] at h2
    by_cases l : b.st < a.st
    · rw [decide_eq_true l] at h2; cases h2
    · omega
theorem cps_tri {x y : Str} (ne : x ≠ y) (h : ¬ y.cps.toList < x.cps.toList) : x.cps.toList < y.cps.toList := by
  have h1 : x.cps.toList ≤ y.cps.toList := List.not_lt.mp h
  rcases List.le_iff_lt_or_eq.mp h1 with z | z
  · exact z
  · exact absurd (PySem.W.str_of_cps z) ne
theorem lt_of_le {a b : Rw} (ne : a.nm ≠ b.nm) (h : PySem.W.dataLe false encR a b = true) : PySem.W.dataLt (encR a) (encR b) = true := by
  have h2 : (!PySem.W.dataLt (encR b) (encR a)) = true := h
  rw [lt_row] at h2 ⊢
  by_cases e : a.st = b.st
  · rw [if_pos e.symm, if_neg (Ne.symm ne)] at h2
    rw [if_pos e, if_neg ne]
    have h3 : ¬ b.nm.cps.toList < a.nm.cps.toList := by simpa using h2
    exact decide_eq_true (cps_tri ne h3)
  · rw [if_neg e]
    have := le_st h
    exact decide_eq_true (by omega)
theorem ris_rows : ∀ {rs : List Rw}, (rs.map (·.nm)).Nodup → rs.Pairwise (fun a b => PySem.W.dataLe false encR a b = true) → risB (rs.map encR) = true
  | [], _, _ => rfl
  | [_], _, _ => rfl
  | a :: b :: r, nd, so => by
    have nd2 := List.nodup_cons.mp (show (a.nm :: (b :: r).map (·.nm)).Nodup from nd)
    have so2 := List.pairwise_cons.mp so
    show (PySem.W.dataLt (encR a) (encR b) && risB ((b :: r).map encR)) = true
    rw [lt_of_le (fun e => nd2.1 (by rw [e]; exact List.mem_cons_self)) (so2.1 b List.mem_cons_self), ris_rows nd2.2 so2.2]
    rfl
/-- what all rows put so far keep -/
structure Put (cs : List Cs) (rows : List Rw) : Prop where
  rm : ∀ r ∈ rows, r.rm ∈ (getC cs r.nm).pl
  fi : ∀ r ∈ rows, (getC cs r.nm).fi ≤ r.st
  st : ∀ r ∈ rows, r.st ≤ 400 + 200 * rows.length
  en : ∀ r ∈ rows, endU cs r ≤ 600 + 200 * rows.length
  ap : rows.Pairwise fun a b => (a.rm = b.rm ∨ share (getC cs a.nm) (getC cs b.nm) = true) → endU cs a ≤ b.st
structure OkU (c : Cs) : Prop where
  u1 : 1 ≤ c.us
  u2 : c.us ≤ 200
  f0 : 0 ≤ c.fi
  f1 : c.fi ≤ 600
  p0 : c.pl ≠ []
theorem put_snoc {cs : List Cs} {rows : List Rw} {nm : Str} (h : Put cs rows) (ok : OkU (getC cs nm)) : Put cs (rows ++ [putM cs rows nm]) := by
  obtain ⟨p1, p2, p3⟩ := put_is rows ok.p0
  generalize hx : putM cs rows nm = x at p1 p2 p3
  have ln : (rows ++ [x]).length = rows.length + 1 := by rw [List.length_append]; rfl
  have xs : x.st ≤ 600 + 200 * rows.length := by
    rw [p3]
    unfold freeM
    refine bgn_le (by have := ok.f1; omega) fun y hy => ?_
    obtain ⟨o, ho, rfl⟩ := List.mem_map.mp hy
    exact h.en o (List.mem_filter.mp ho).1
  have xf : (getC cs nm).fi ≤ x.st := by
    rw [p3]
    exact bgn_ge.1
  have u2 := ok.u2
  refine ⟨fun r hr => ?_, fun r hr => ?_, fun r hr => ?_, fun r hr => ?_, ?_⟩
  · rcases List.mem_append.mp hr with z | z
    · exact h.rm r z
    · rw [List.mem_singleton] at z; rw [z, p1]; exact p2
  · rcases List.mem_append.mp hr with z | z
    · exact h.fi r z
    · rw [List.mem_singleton] at z; rw [z, p1]; exact xf
  · rw [ln]
    rcases List.mem_append.mp hr with z | z
    · have := h.st r z; omega
    · rw [List.mem_singleton] at z; rw [z]; omega
  · rw [ln]
    rcases List.mem_append.mp hr with z | z
    · have := h.en r z; omega
    · rw [List.mem_singleton] at z
      rw [z]
      unfold endU
      rw [p1]
      omega
  · refine List.pairwise_append.mpr ⟨h.ap, List.pairwise_singleton _ _, fun a ha b hb hab => ?_⟩
    rw [List.mem_singleton] at hb
    rw [hb] at hab ⊢
    rw [p3]
    refine bgn_ge.2 _ (List.mem_map.mpr ⟨a, List.mem_filter.mpr ⟨ha, ?_⟩, rfl⟩)
    rw [p1] at hab
    rcases hab with z | z
    · rw [z]; simp
    · rw [z, Bool.or_true]
theorem put_all {cs : List Cs} : ∀ (order : List Str) (rows : List Rw), Put cs rows → (∀ nm ∈ order, OkU (getC cs nm)) → Put cs (order.foldl (fun rows nm => rows ++ [putM cs rows nm]) rows)
  | [], _, h, _ => h
  | a :: l, rows, h, k => put_all l _ (put_snoc h (k a List.mem_cons_self)) fun nm hn => k nm (List.mem_cons_of_mem _ hn)
theorem put_rows {cs : List Cs} (order : List Str) (k : ∀ nm ∈ order, OkU (getC cs nm)) : Put cs (rowsM cs order) := put_all order [] ⟨(fun _ z => nomatch z), (fun _ z => nomatch z), (fun _ z => nomatch z), (fun _ z => nomatch z), .nil⟩ k
/-- a day of usual times on which each begins at its start -/
theorem td_smooth {cs : List Cs} {pl : List Rw} (h : ∀ a b, a < b → b < pl.length → (rmAt pl a = rmAt pl b ∨ share (csAt cs pl a) (csAt cs pl b) = true) → endU cs (pl.getD a default) ≤ (pl.getD b default).st) :
    ∀ k, k ≤ pl.length → tdM cs pl (usM cs pl) k = (pl.take k).map fun r => (r.nm, r.st, endU cs r)
  | 0, _ => rfl
  | k + 1, hk => by
    have ih := td_smooth h k (by omega)
    have lk : k < pl.length := by omega
    have gk : pl[k]? = some (pl.getD k default) := by
      rw [List.getD_eq_getElem?_getD, List.getElem?_eq_getElem lk]
      rfl
    unfold tdM
    rw [ih]
    have eb : bgn (pl.getD k default).st (endsOf ((pl.take k).map fun r => (r.nm, r.st, endU cs r)) (leanAt cs pl k)) = (pl.getD k default).st := by
      refine Int.le_antisymm (bgn_le (Int.le_refl _) fun y hy => ?_) bgn_ge.1
      obtain ⟨a, ha, rfl⟩ := List.mem_map.mp hy
      have lt := leanAt_lt ha
      have ht := (List.mem_filter.mp ha).2
      have ga : ((pl.take k).map fun r => (r.nm, r.st, endU cs r)).getD a default = ((pl.getD a default).nm, (pl.getD a default).st, endU cs (pl.getD a default)) := by
        rw [List.getD_eq_getElem?_getD, List.getElem?_map, List.getElem?_take, if_pos lt, List.getD_eq_getElem?_getD, List.getElem?_eq_getElem (by omega : a < pl.length)]
        rfl
      rw [ga]
      refine h a k lt lk ?_
      rw [Bool.or_eq_true] at ht
      rcases ht with z | z
      · exact .inl (eq_of_beq z)
      · exact .inr z
    rw [eb, List.take_add_one, gk, List.map_append]
    have eu : (usM cs pl).getD k 0 = (getC cs (pl.getD k default).nm).us := by
      unfold usM
      rw [List.getD_eq_getElem?_getD, List.getElem?_map, gk]
      rfl
    rw [eu]
    rfl
theorem smooth_of {cs : List Cs} {pl : List Rw} (h : ∀ a b, a < b → b < pl.length → (rmAt pl a = rmAt pl b ∨ share (csAt cs pl a) (csAt cs pl b) = true) → endU cs (pl.getD a default) ≤ (pl.getD b default).st) : smoothM cs pl = true := by
  unfold smoothM tdAll
  rw [td_smooth h pl.length (Nat.le_refl _), List.take_length, List.map_map]
  have e : (encB ∘ fun r : Rw => (r.nm, r.st, endU cs r)) = encS := rfl
  rw [e]
  exact lay_list (shaped_ints (fun r : Rw => r.st) pl)
theorem pair_or {α : Type} {R : α → α → Prop} {l : List α} (h : l.Pairwise R) {a b : α} (ha : a ∈ l) (hb : b ∈ l) (ne : a ≠ b) : R a b ∨ R b a := by
  induction h with
  | nil => cases ha
  | cons h1 _ ih =>
    rcases List.mem_cons.mp ha with ea | ea <;> rcases List.mem_cons.mp hb with eb | eb
    · exact absurd (ea.trans eb.symm) ne
    · rw [ea]; exact .inl (h1 _ eb)
    · rw [eb]; exact .inr (h1 _ ea)
    · exact ih ea eb
structure OkM (cs : List Cs) (order : List Str) : Prop extends OkO cs order where
  ou : ∀ c ∈ cs, OkU c
theorem OkM.u {cs : List Cs} {order : List Str} (ok : OkM cs order) {nm : Str} (h : nm ∈ order) : OkU (getC cs nm) := ok.ou _ (ok.toOkO.get h).1
theorem plan_pm (cs : List Cs) (order : List Str) : (planM cs order).Perm (rowsM cs order) := List.mergeSort_perm _ _
theorem plan_so (cs : List Cs) (order : List Str) : (planM cs order).Pairwise fun a b => PySem.W.dataLe false encR a b = true := PySem.W.sort_pairwise (PySem.W.sortLe_total _ false _) _
theorem OkM.nms {cs : List Cs} {order : List Str} (ok : OkM cs order) : (rowsM cs order).map (·.nm) = order := rows_nm order fun nm hn => (ok.u hn).p0
theorem OkM.nd2 {cs : List Cs} {order : List Str} (ok : OkM cs order) : ((planM cs order).map (·.nm)).Nodup := by
  rw [((plan_pm cs order).map _).nodup_iff, ok.nms, ok.pm.nodup_iff]
  exact ok.nd
theorem OkM.len {cs : List Cs} {order : List Str} (ok : OkM cs order) : (planM cs order).length = cs.length := by
  rw [(plan_pm cs order).length_eq]
  have := congrArg List.length ok.nms
  rw [List.length_map] at this
  rw [this, ok.pm.length_eq, List.length_map]
theorem OkM.okP {cs : List Cs} {order : List Str} (ok : OkM cs order) : OkP cs (planM cs order) := by
  have h := ok.toOkO.rowsOk ⟨[], (List.append_nil _).symm⟩
  exact ⟨h.nd, h.lc, by rw [ok.len]; exact ok.l8, fun r hr => h.mem r ((plan_pm cs order).mem_iff.mp hr), h.okn, h.okt⟩
theorem OkM.isPlan {cs : List Cs} {order : List Str} (ok : OkM cs order) : planB cs (encP (planM cs order)) = true := by
  have put := put_rows (cs := cs) order fun nm hn => ok.u hn
  have okp := ok.okP
  have ln := ok.len
  show (decide (((planM cs order).map encR).length ≤ cs.length) && (((planM cs order).map encR).all (rowB cs) && (risB ((planM cs order).map encR) && decide ((((planM cs order).map encR).map rowNm).Nodup)))) = true
  rw [rowNm_map, decide_eq_true ok.nd2, ris_rows ok.nd2 (plan_so cs order), decide_eq_true (by rw [List.length_map]; omega), Bool.true_and, Bool.and_true]
  rw [Bool.and_true, List.all_eq_true]
  intro d hd
  obtain ⟨r, hr, rfl⟩ := List.mem_map.mp hd
  have hr2 := (plan_pm cs order).mem_iff.mp hr
  obtain ⟨c1, c2⟩ := okp.get hr
  have rl : (rowsM cs order).length = cs.length := by rw [← (plan_pm cs order).length_eq]; exact ln
  have s1 := put.st r hr2
  have s2 := put.fi r hr2
  have s3 := (ok.ou _ c1).f0
  have l8 := ok.l8
  have fnd : findC cs r.nm = some (getC cs r.nm) := by
    have h1 := lk_find ok.nd r.nm
    rw [lk_dictC okp hr] at h1
    cases z : findC cs r.nm with
    | none => rw [z] at h1; cases h1
    | some c =>
      have hm := List.mem_of_find?_eq_some z
      have hn : c.nm = r.nm := by simpa using List.find?_some (show cs.find? (fun c => decide (c.nm = r.nm)) = some c from z)
      rw [← hn, getC_of ok.nd hm]
  show (match findC cs r.nm with | none => false | some c => (c.pl.any fun q => q == r.rm) && (numB (.int r.st) 0 2000 && geB (.int r.st) c.fi)) = true
  rw [fnd]
  have e1 : ((getC cs r.nm).pl.any fun q => q == r.rm) = true := List.any_eq_true.mpr ⟨r.rm, put.rm r hr2, by simp⟩
  have e2 : numB (.int r.st) 0 2000 = true := by
    show (decide ((0 : Int) ≤ r.st) && decide (r.st ≤ 2000)) = true
    rw [decide_eq_true (by omega), decide_eq_true (by omega)]
    rfl
  have e3 : geB (.int r.st) (getC cs r.nm).fi = true := decide_eq_true s2
  show (_ && (_ && _)) = true
  rw [e1, e2, e3]
  rfl
theorem OkM.smooth {cs : List Cs} {order : List Str} (ok : OkM cs order) : smoothM cs (planM cs order) = true := by
  have put := put_rows (cs := cs) order fun nm hn => ok.u hn
  refine smooth_of fun a b hab hb hc => ?_
  have la : a < (planM cs order).length := by omega
  have ga : (planM cs order).getD a default = (planM cs order)[a] := by rw [List.getD_eq_getElem?_getD, List.getElem?_eq_getElem la]; rfl
  have gb : (planM cs order).getD b default = (planM cs order)[b] := by rw [List.getD_eq_getElem?_getD, List.getElem?_eq_getElem hb]; rfl
  unfold rmAt csAt at hc
  rw [ga, gb] at hc ⊢
  have le := le_st (List.pairwise_iff_getElem.mp (plan_so cs order) a b la hb hab)
  have nm : ((planM cs order)[a]).nm ≠ ((planM cs order)[b]).nm := by
    have := List.pairwise_iff_getElem.mp (List.pairwise_map.mp (show ((planM cs order).map (·.nm)).Pairwise (· ≠ ·) from ok.nd2)) a b la hb hab
    exact this
  have ma := (plan_pm cs order).mem_iff.mp (List.getElem_mem la)
  have mb := (plan_pm cs order).mem_iff.mp (List.getElem_mem hb)
  have ub := (ok.ou _ (ok.okP.get (List.getElem_mem hb)).1).u1
  rcases pair_or put.ap ma mb (fun e => nm (by rw [e])) with z | z
  · exact z hc
  · have := z (by
      rcases hc with y | y
      · exact .inl y.symm
      · rw [share_comm] at y; exact .inr y)
    unfold endU at this
    omega
end Go
namespace Go
open PySem PySem.Spec PyProof.Rows L2 SetMix ZipE
local macro_rules | `(tactic| walk_at "g") => `(tactic| first
  | ((with_reducible refine gd_var (d := ?dd) ?hv ?_); (case hv => exact rfl))
  | ((with_reducible refine gd_ixScr (ns := ?ns) ?hv ?_); (case hv => exact rfl))
  | ((with_reducible refine gd_ixCel (j := ?jj) ?hv ?_); (case hv => exact rfl))
  | ((with_reducible refine gd_lenScr (ns := ?ns) ?hv ?_); (case hv => exact rfl))
  | with_reducible first
    | refine gs_seq ?_ | refine gs_next ?_ | refine gs_ret ?_ | refine gs_asgD ?_ | refine gs_if ?_
    | refine gt_test ?_ | refine gt_B ?_ | refine gt_and ?_ | refine gt_or ?_ | refine gt_not ?_ | refine gt_yes ?_
    | refine gd_int ?_ | refine gd_str ?_ | refine gd_bl ?_ | refine gd_non ?_
    | refine gd_op ?_ | refine gd_tup ?_ | refine gd_lst ?_
    | refine gd_cb (r := rLenA _) ?_ | refine gd_cb (r := rTupleA _) ?_ | refine gd_cb (r := rAbsA) ?_ | refine gd_cb (r := rMax2A) ?_ | refine gd_cb (r := rMin2A) ?_ | refine gd_cb (r := rIntA) ?_ | refine gd_cb (r := rAny _) ?_ | refine gd_cb (r := rAll _) ?_ | refine gd_cb (r := rDictP _) ?_ | refine gd_cb (r := rMax _) ?_ | refine gd_cb (r := rMin _) ?_
    | refine gs_cons ?_ | refine gs_nil ?_ | refine gd_dget ?_
    | refine gd_and ?_ | refine gd_or ?_ | refine gd_not ?_
    | refine opd_addI ?_ | refine opd_sub ?_ | refine opd_lt ?_ | refine opd_le ?_ | refine opd_gt ?_ | refine opd_ge ?_
    | refine opd_lenL ?_ | refine opd_lenT ?_ | refine opd_tupleL ?_ | refine opd_tupleT ?_ | refine opd_max2 ?_ | refine opd_min2 ?_ | refine opd_abs ?_ | refine opd_intB ?_
    | refine Exists.intro _ (And.intro rfl ?_))
theorem shapedT {α : Type} (f : α → D) {xs : List α} (h1 : ∀ a ∈ xs, (f a).canLay0 = true) (h2 : ∀ a ∈ xs, (f a).depth ≤ 60) : SeqAt.shaped (.tuple (xs.map f)) = true := by
  unfold SeqAt.shaped
  rw [Bool.and_eq_true]
  refine ⟨by unfold PyData.canLay0; exact layL f h1, decide_eq_true ?_⟩
  unfold PyData.depth
  have := depL f h2
  omega
theorem shaped_plan {cs : List Cs} {pl : List Rw} (ok : OkP cs pl) : SeqAt.shaped (encP pl) = true := by
  refine shapedT encR (fun r hr => ?_) fun r _ => Nat.le_trans (depth_row r) (by decide)
  obtain ⟨c, hc, e⟩ := ok.mem r hr
  rw [← lay_row (r := r) (by rw [← e]; exact ok.okn c hc)]
theorem eqv_sh {d : D} (h : SeqAt.shaped d = true) : PyData.eqv d d = true := eqv_self _ (SeqAt.canLay_of_shaped h)
def unS : D → Str
  | .str x => x
  | _ => ""
theorem perm_strs {es : List D} {xs : List Str} (h : es.Perm (xs.map PyData.str)) : ∃ ys : List Str, es = ys.map PyData.str ∧ ys.Perm xs := by
  refine ⟨es.map unS, ?_, ?_⟩
  · rw [List.map_map]
    conv => lhs; rw [← List.map_id es]
    refine List.map_congr_left fun e he => ?_
    obtain ⟨x, _, rfl⟩ := List.mem_map.mp (h.mem_iff.mp he)
    rfl
  · have := h.map unS
    rw [List.map_map] at this
    have e : (unS ∘ PyData.str) = id := rfl
    rw [e, List.map_id] at this
    exact this
theorem okM_of {h : Hs} {cs : List Cs} {order : List Str} (hH : GoodH h) (hC : GoodCs h cs) (pm : order.Perm (cs.map (·.nm))) : OkM cs order where
  nd := by
    rw [hC.nm]
    exact List.Nodup.sublist (List.take_sublist _ _) (by unfold eight; decide +kernel)
  l8 := hC.l8
  pm := pm
  okn := fun c hc => okS_eight _ (List.mem_of_mem_take (by rw [← hC.nm]; exact List.mem_map.mpr ⟨c, hc, rfl⟩))
  okt := fun c hc p hp => okS_five p (hH.fv p ((hC.al c hc).tm p hp))
  tl := fun c hc => by have := (hC.al c hc).tl; omega
  p0 := fun c hc => (hC.al c hc).p0
  pn := fun c hc => by have := (hC.al c hc).pn; omega
  pu := fun c hc => (hC.al c hc).pu
  ou := fun c hc => ⟨(hC.al c hc).u1, (hC.al c hc).u2, (hC.al c hc).f0, (hC.al c hc).f1, (hC.al c hc).p0⟩
section
variable {K : PySem.W.Frag} {wd : PySem.World} {n : Nat} {ρ ts : List SV} {g : List Cell}
def encNmC (c : Cs) : D := .str c.nm
theorem noC2 {ns : List Int} {k : Nat} : NoC [.s ns, .d (.int (k : Int))] := fun s hs j => by
  rcases List.mem_cons.mp hs with z | z
  · rw [z]; exact fun y => nomatch y
  · rw [List.mem_singleton] at z; rw [z]; exact fun y => nomatch y
def R_law09 : RSpec := fun ss g post => ∃ ns : List Int, ss = [.s ns] ∧ g = [] ∧ post (.bool true) []
def t_law09 (K : PySem.W.Frag) (wd : PySem.World) : TS := (tSeq (tFor (iRng1 (tCons (tOp (rAddA K) (tC (.int 1)) (tCB rMin2A (tCons (tCB (rLenA K) (tCons (tVar 0) tNil)) (tCons (tC (.int 20)) tNil)))) tNil)) (gName 1) (tSeq (tAsg (tCall (spNew K R_law_bag) [] E0 (tCons (tVar 0) (tCons (tVar 1) tNil))) (gName 2)) (tSeq (tAsg (tCall (spOf K R_law_house) [] E0 (tCons (tVar 2) tNil)) (gName 3)) (tSeq (tAsg (tCall (spOf K R_law_cases) [] E0 (tCons (tVar 2) (tCons (tVar 3) (tCons (tC (.int 8)) tNil)))) (gName 4)) (tSeq (tAsg (tLc (iTup K (tVar 4)) (gName 9) tYes (tOp (rIx K) (tVar 9) (tC (.int 0))) [9]) (gName 5)) (tFor (iRng1 (tCons (tC (.int 4)) tNil)) (gName 6) (tSeq (tAsg (tCall (spOf K R_law_mixed) [] E0 (tCons (tVar 2) (tCons (tVar 5) tNil))) (gName 7)) (tSeq (tAsg (tCall (spOf K Rplan_by) [] E0 (tCons (tVar 4) (tCons (tVar 7) tNil))) (gName 8)) (tSeq (tIfS (tOr (tTest (tOp (rNeD K) (tVar 8) (tCall (spOf K R_law_plan_by) [] E0 (tCons (tVar 4) (tCons (tVar 7) tNil))))) (tTest (tOp rIsNB (tCall (spOf K Ris_plan) [] E0 (tCons (tVar 4) (tCons (tVar 8) tNil))) (tC (.bl true))))) (tRet (tC (.bl false))) tNext) (tIfS (tTest (tOp rIsNB (tCall (spOf K Ris_smooth) [] E0 (tCons (tVar 4) (tCons (tVar 8) tNil))) (tC (.bl true)))) (tRet (tC (.bl false))) tNext)))))))))) (tRet (tC (.bl true))))
theorem go_law09 (ss : List SV) (g : List Cell) (post : D → List Cell → Prop) (h : R_law09 ss g post) : GoS K g.length (t_law09 K wd) (ss ++ List.replicate (10 - ss.length) .no) g (KF g.length post) := by
  obtain ⟨ns, rfl, rfl, p⟩ := h
  unfold t_law09
  refine gs_seq (gs_for (gi_rng1 ?_))
  (repeat (walk_at "g"))
  have hle : (if (20 : Int) < (ns.length : Int) then 20 else (ns.length : Int)) ≤ 20 ∧ 0 ≤ (if (20 : Int) < (ns.length : Int) then 20 else (ns.length : Int)) := by split <;> omega
  refine ⟨by omega, by omega, ?_⟩
  refine ⟨fun i ρ g => ∃ x1 x2 x3 x4 x5 x6 x7 x8 : SV, ρ = [.s ns, x1, x2, x3, x4, x5, x6, x7, x8, .no] ∧ g = [], ⟨.no, .no, .no, .no, .no, .no, .no, .no, rfl, rfl⟩, fun k d ρ' g' hi ⟨x1, x2, x3, x4, x5, x6, x7, x8, e1, e2⟩ _ => ?_, fun ρ' g' ⟨x1, x2, x3, x4, x5, x6, x7, x8, e1, e2⟩ _ => ?_⟩
  · subst e1 e2
    obtain ⟨rfl, lk⟩ := rng_at hi
    refine gg_name (gs_seq (gs_asg (ge_callN (ga_cons (ge_var rfl (fun z => nomatch z) (ga_cons (ge_var rfl (fun z => nomatch z) (ga_nil ⟨noC2, ns, k, rfl, by omega, fun b hb => ?_⟩))))))))
    refine gs_seq (gs_asgD (gd_bag rfl (gs_nil ⟨b, rfl, b, rfl, rfl, hb, fun h b1 hH hb1 => ⟨b1, rfl, ?_⟩⟩)))
    refine gs_seq (gs_asgD (gd_bag rfl (gs_cons (gd_var rfl (gs_cons (gd_int (gs_nil ⟨b1, rfl, b1, h, 8, rfl, rfl, hb1, hH, by decide, fun cs b2 hC hl hb2 => ⟨b2, rfl, ?_⟩⟩)))))))
    have l8 := hC.l8
    refine gs_seq (gs_asgD (gd_mapT encC encNmC mg_name (ij_name (by simp)) (gi_tup (gd_var rfl ⟨_, rfl, cs, rfl, by omega, fun i c hc => gg_name (gd_op (gd_var rfl (gd_int (opd_ixT (d := .str c.nm) rfl ⟨rfl, rfl⟩)))), ?_⟩))))
    have en : cs.map encNmC = (cs.map (·.nm)).map PyData.str := by rw [List.map_map]; rfl
    rw [en]
    refine gs_for (gi_rng1 (gs_cons (gd_int (gs_nil ⟨_, rfl, by decide, by decide, ?_⟩))))
    refine ⟨fun i ρ g => ∃ (b : List D) (x6 x7 x8 : SV), ρ = [.s ns, .d (.int (k : Int)), .c 0, .d (encH h), .d (encCs cs), .d (.list ((cs.map (·.nm)).map PyData.str)), x6, x7, x8, .no] ∧ g = [some b] ∧ Bag b, ⟨b2, _, _, _, rfl, rfl, hb2⟩, fun i d ρ' g' hi ⟨b, x6, x7, x8, e1, e2, hb⟩ _ => ?_, fun ρ' g' ⟨b, x6, x7, x8, e1, e2, hb⟩ _ => ?_⟩
    · subst e1 e2
      obtain ⟨rfl, _⟩ := rng_at hi
      refine gg_name (gs_seq (gs_asgD (gd_bag rfl (gs_cons (gd_var rfl (gs_nil ⟨b, rfl, b, _, rfl, rfl, hb, by rw [List.length_map, List.length_map]; omega, fun es b3 pm hb3 => ⟨b3, rfl, ?_⟩⟩))))))
      obtain ⟨order, rfl, pm2⟩ := perm_strs pm
      have ok := okM_of hH hC pm2
      have okp := ok.okP
      refine gs_seq (gs_asgD (gd_call (gs_cons (gd_var rfl (gs_cons (gd_var rfl (gs_nil ⟨cs, order, rfl, rfl, ok.toOkO, ?_⟩)))))))
      refine gs_seq (gs_if (gt_or (gt_test (gd_op (gd_var rfl (gd_call (gs_cons (gd_var rfl (gs_cons (gd_var rfl (gs_nil ⟨cs, order, rfl, rfl, ok.toOkO, opd_ne (shaped_plan okp) (shaped_plan okp) ?_⟩)))))))))))
      rw [eqv_sh (shaped_plan okp)]
      refine ⟨_, rfl, fun _ => ?_, fun z => nomatch z⟩
      refine gt_test (gd_op (gd_call (gs_cons (gd_var rfl (gs_cons (gd_var rfl (gs_nil ⟨cs, encP (planM cs order), rfl, rfl, ok.nd, ok.l8, ok.okn, ?_⟩)))))))
      rw [ok.isPlan]
      refine gd_bl (opd_isNB ⟨_, rfl, fun z => (nomatch z), fun _ => gs_next ?_⟩)
      refine gs_if (gt_test (gd_op (gd_call (gs_cons (gd_var rfl (gs_cons (gd_var rfl (gs_nil ⟨cs, planM cs order, rfl, rfl, okp, ok.tl, ?_⟩))))))))
      rw [ok.smooth]
      exact gd_bl (opd_isNB ⟨_, rfl, fun z => (nomatch z), fun _ => gs_next ⟨b3, _, _, _, rfl, rfl, hb3⟩⟩)
    · subst e1 e2
      exact ⟨_, _, _, _, _, _, _, _, rfl, rfl⟩
  · subst e1 e2
    exact gs_ret (gd_bl ⟨_, rfl, p⟩)
end
end Go
namespace Go
open PySem PySem.Spec PyProof.Rows L2 SetMix ZipE
/-! ### cases called off: the mathematics -/
def lastM (cs : List Cs) (pl : List Rw) (m : Nat) : Int := bgn 0 ((latM cs pl m).map (·.2.2))
def restM (pl : List Rw) (G : List Str) : List Rw := pl.filter fun r => !(G.any fun x => x == r.nm)
def slt (a b : Str) : Prop := a.cps.toList < b.cps.toList
instance (a b : Str) : Decidable (slt a b) := inferInstanceAs (Decidable (a.cps.toList < b.cps.toList))
theorem slt_irr (a : Str) : ¬ slt a a := fun h => List.lt_irrefl _ h
theorem slt_trans {a b c : Str} (h : slt a b) (k : slt b c) : slt a c := List.lt_trans h k
theorem slt_tri {a b : Str} (ne : a ≠ b) : slt a b ∨ slt b a := by
  by_cases h : slt b a
  · exact .inr h
  · exact .inl (cps_tri ne h)
def tupS (a : List Str) : D := .tuple (a.map PyData.str)
def ltS (a b : List Str) : Bool := PySem.W.dataLt (tupS a) (tupS b)
theorem ltS_nil : ltS [] [] = false := lex_irrefl _
theorem ltS_self (a : List Str) : ltS a a = false := lex_irrefl _
theorem ltS_cons (x y : Str) (a b : List Str) : ltS (x :: a) (y :: b) = if x = y then ltS a b else decide (slt x y) := by
  unfold ltS tupS
  rw [List.map_cons, List.map_cons, PySem.W.dataLt_tuple, PySem.W.dataLt_cons (by simp [PySem.W.alike]), PySem.W.dataLt_str]
  simp only [PyData.eqv, beq_iff_eq]
  by_cases h : x = y
  · rw [if_pos h, if_pos h, PySem.W.dataLt_tuple]
  · rw [if_neg h, if_neg h]
    rfl
theorem ltS_tri : ∀ {a b : List Str}, a.length = b.length → a ≠ b → ltS a b = true ∨ ltS b a = true
  | [], [], _, h => absurd rfl h
  | x :: a, y :: b, hl, h => by
    rw [ltS_cons, ltS_cons]
    by_cases e : x = y
    · rw [if_pos e, if_pos e.symm]
      exact ltS_tri (by simpa using hl) fun z => h (by rw [e, z])
    · rw [if_neg e, if_neg (Ne.symm e)]
      rcases slt_tri e with z | z
      · exact .inl (decide_eq_true z)
      · exact .inr (decide_eq_true z)
theorem ltS_trans : ∀ {a b c : List Str}, a.length = b.length → b.length = c.length → ltS a b = true → ltS b c = true → ltS a c = true
  | [], [], [], _, _, h, _ => by rw [ltS_nil] at h; cases h
  | x :: a, y :: b, z :: c, h1, h2, h, k => by
    rw [ltS_cons] at h k ⊢
    by_cases e : x = y
    · rw [if_pos e] at h
      by_cases f : y = z
      · rw [if_pos f] at k
        rw [if_pos (e.trans f)]
        exact ltS_trans (by simpa using h1) (by simpa using h2) h k
      · rw [if_neg f] at k
        rw [e, if_neg f]
        exact k
    · rw [if_neg e] at h
      by_cases f : y = z
      · rw [← f, if_neg e]
        exact h
      · rw [if_neg f] at k
        have h3 := of_decide_eq_true h
        have k3 := of_decide_eq_true k
        have l3 := slt_trans h3 k3
        have ne : x ≠ z := fun q => slt_irr x (by rw [q] at l3 ⊢; exact l3)
        rw [if_neg ne]
        exact decide_eq_true l3
theorem ltS_asym {a b : List Str} (hl : a.length = b.length) (h : ltS a b = true) : ltS b a = false := by
  cases z : ltS b a with
  | false => rfl
  | true =>
    have := ltS_trans hl hl.symm h z
    rw [ltS_self] at this
    cases this
theorem ltS_app : ∀ {a b : List Str} {x y : Str}, a.length = b.length → ltS a b = true → ltS (a ++ [x]) (b ++ [y]) = true
  | [], [], _, _, _, h => by rw [ltS_nil] at h; cases h
  | p :: a, q :: b, x, y, hl, h => by
    rw [ltS_cons] at h
    show ltS (p :: (a ++ [x])) (q :: (b ++ [y])) = true
    rw [ltS_cons]
    by_cases e : p = q
    · rw [if_pos e] at h ⊢
      exact ltS_app (by simpa using hl) h
    · rw [if_neg e] at h ⊢
      exact h
theorem ltS_last : ∀ {a : List Str} {x y : Str}, slt x y → ltS (a ++ [x]) (a ++ [y]) = true
  | [], x, y, h => by
    show ltS [x] [y] = true
    rw [ltS_cons, if_neg fun e => slt_irr x (by rw [e] at h ⊢; exact h)]
    exact decide_eq_true h
  | p :: a, x, y, h => by
    show ltS (p :: (a ++ [x])) (p :: (a ++ [y])) = true
    rw [ltS_cons, if_pos rfl]
    exact ltS_last h
/-- fewer first, then in order -/
def ltP (a b : List Str) : Bool := if a.length = b.length then ltS a b else decide (a.length < b.length)
theorem ltP_self (a : List Str) : ltP a a = false := by unfold ltP; rw [if_pos rfl, ltS_self]
theorem ltP_trans {a b c : List Str} (h : ltP a b = true) (k : ltP b c = true) : ltP a c = true := by
  unfold ltP at *
  by_cases e : a.length = b.length
  · rw [if_pos e] at h
    by_cases f : b.length = c.length
    · rw [if_pos f] at k
      rw [if_pos (e.trans f)]
      exact ltS_trans e f h k
    · rw [if_neg f] at k
      have := of_decide_eq_true k
      rw [if_neg (by omega)]
      exact decide_eq_true (by omega)
  · rw [if_neg e] at h
    have h1 := of_decide_eq_true h
    by_cases f : b.length = c.length
    · rw [if_neg (by omega)]
      exact decide_eq_true (by omega)
    · rw [if_neg f] at k
      have := of_decide_eq_true k
      rw [if_neg (by omega)]
      exact decide_eq_true (by omega)
theorem ltP_eq {a b : List Str} (h : ltP a b = false) (k : ltP b a = false) : a = b := by
  unfold ltP at h k
  by_cases e : a.length = b.length
  · rw [if_pos e] at h
    rw [if_pos e.symm] at k
    by_cases z : a = b
    · exact z
    · rcases ltS_tri e z with y | y
      · rw [y] at h; cases h
      · rw [y] at k; cases k
  · rw [if_neg e] at h
    rw [if_neg (Ne.symm e)] at k
    have := of_decide_eq_false h
    have := of_decide_eq_false k
    omega
structure Ris (ns G : List Str) : Prop where
  pw : G.Pairwise slt
  mem : ∀ x ∈ G, x ∈ ns
theorem ris_sub : ∀ {ns G : List Str}, ns.Pairwise slt → Ris ns G → G.Sublist ns
  | [], [], _, _ => .slnil
  | [], x :: _, _, h => by cases h.mem x List.mem_cons_self
  | a :: t, [], _, _ => List.nil_sublist _
  | a :: t, x :: G, hp, h => by
    have hp2 := List.pairwise_cons.mp hp
    have hg := List.pairwise_cons.mp h.pw
    by_cases e : x = a
    · subst e
      refine List.Sublist.cons₂ _ (ris_sub hp2.2 ⟨hg.2, fun y hy => ?_⟩)
      rcases List.mem_cons.mp (h.mem y (List.mem_cons_of_mem _ hy)) with z | z
      · have := hg.1 y hy
        rw [z] at this
        exact absurd this (slt_irr _)
      · exact z
    · have xt : x ∈ t := by
        rcases List.mem_cons.mp (h.mem x List.mem_cons_self) with z | z
        · exact absurd z e
        · exact z
      have ax := hp2.1 x xt
      refine List.Sublist.cons _ (ris_sub hp2.2 ⟨h.pw, fun y hy => ?_⟩)
      rcases List.mem_cons.mp (h.mem y hy) with z | z
      · rcases List.mem_cons.mp hy with q | q
        · rw [q] at z; exact absurd z e
        · have := slt_trans ax (hg.1 y q)
          rw [z] at this
          exact absurd this (slt_irr _)
      · exact z
def gtB (g : List Str) (x : Str) : Bool := match g.getLast? with
  | none => true
  | some l => decide (slt l x)
def grpM (ns : List Str) : Nat → List (List Str)
  | 0 => [[]]
  | s + 1 => (grpM ns s).flatMap fun g => (ns.filter (gtB g)).map fun x => g ++ [x]
theorem gt_all {g : List Str} {x : Str} (hp : g.Pairwise slt) (h : gtB g x = true) : ∀ y ∈ g, slt y x := by
  intro y hy
  unfold gtB at h
  cases z : g.getLast? with
  | none => rw [List.getLast?_eq_none_iff] at z; subst z; cases hy
  | some l =>
    rw [z] at h
    have hl := of_decide_eq_true h
    obtain ⟨t, rfl⟩ := List.getLast?_eq_some_iff.mp z
    rcases List.mem_append.mp hy with q | q
    · exact slt_trans ((List.pairwise_append.mp hp).2.2 y q l (List.mem_singleton.mpr rfl)) hl
    · rw [List.mem_singleton] at q; rw [q]; exact hl
theorem grp_ris {ns : List Str} : ∀ {s : Nat} {G : List Str}, G ∈ grpM ns s → Ris ns G ∧ G.length = s
  | 0, G, h => by
    have : G = [] := by simpa [grpM] using h
    subst this
    exact ⟨⟨.nil, fun _ z => nomatch z⟩, rfl⟩
  | s + 1, G, h => by
    obtain ⟨g, hg, h2⟩ := List.mem_flatMap.mp h
    obtain ⟨x, hx, rfl⟩ := List.mem_map.mp h2
    obtain ⟨r, l⟩ := grp_ris hg
    obtain ⟨hx1, hx2⟩ := List.mem_filter.mp hx
    refine ⟨⟨List.pairwise_append.mpr ⟨r.pw, List.pairwise_singleton _ _, fun a ha b hb => ?_⟩, fun y hy => ?_⟩, by rw [List.length_append, l]; rfl⟩
    · rw [List.mem_singleton] at hb; rw [hb]; exact gt_all r.pw hx2 a ha
    · rcases List.mem_append.mp hy with q | q
      · exact r.mem y q
      · rw [List.mem_singleton] at q; rw [q]; exact hx1
theorem ris_grp {ns : List Str} : ∀ (s : Nat) {G : List Str}, Ris ns G → G.length = s → G ∈ grpM ns s
  | 0, G, _, h => by
    have : G = [] := List.length_eq_zero_iff.mp h
    subst this
    exact List.mem_cons_self
  | s + 1, G, r, h => by
    have hne : G ≠ [] := fun z => by rw [z] at h; cases h
    have e : G.dropLast ++ [G.getLast hne] = G := List.dropLast_concat_getLast hne
    generalize hg : G.dropLast = g at e
    generalize hx : G.getLast hne = x at e
    subst e
    have pw := List.pairwise_append.mp r.pw
    refine List.mem_flatMap.mpr ⟨g, ris_grp s ⟨pw.1, fun y hy => r.mem y (List.mem_append_left _ hy)⟩ (by rw [List.length_append] at h; exact Nat.succ.inj h), List.mem_map.mpr ⟨x, List.mem_filter.mpr ⟨r.mem x (List.mem_append_right _ (List.mem_singleton.mpr rfl)), ?_⟩, rfl⟩⟩
    unfold gtB
    cases z : g.getLast? with
    | none => rfl
    | some l => exact decide_eq_true (pw.2.2 l (List.mem_of_getLast? z) x (List.mem_singleton.mpr rfl))
theorem grp_up {ns : List Str} (hp : ns.Pairwise slt) : ∀ s, (grpM ns s).Pairwise fun a b => ltS a b = true
  | 0 => List.pairwise_singleton _ _
  | s + 1 => by
    have ih := grp_up hp s
    show ((grpM ns s).flatMap fun g => (ns.filter (gtB g)).map fun x => g ++ [x]).Pairwise _
    rw [List.pairwise_flatMap]
    refine ⟨fun g _ => ?_, ?_⟩
    · rw [List.pairwise_map]
      exact (hp.sublist List.filter_sublist).imp fun h => ltS_last h
    · refine List.Pairwise.imp_of_mem (fun ha hb hab x hx y hy => ?_) ih
      obtain ⟨p, _, rfl⟩ := List.mem_map.mp hx
      obtain ⟨q, _, rfl⟩ := List.mem_map.mp hy
      exact ltS_app ((grp_ris ha).2.trans (grp_ris hb).2.symm) hab
/-! lots of places, as names -/
def offM (ns : List Str) (S : List Nat) : List Str := S.map fun k => ns.getD k ""
theorem off_sub (ns : List Str) (m : Nat) : ∀ (k : Nat), k ≤ ns.length → ∀ S ∈ lotsM m k, (offM ns S).Sublist (ns.take k)
  | 0, _, S, h => by
    have : S = [] := by simpa [lotsM] using h
    subst this
    exact .slnil
  | k + 1, hk, S, h => by
    have ih := off_sub ns m k (by omega)
    have gk : ns[k]? = some (ns.getD k "") := by
      rw [List.getD_eq_getElem?_getD, List.getElem?_eq_getElem (by omega : k < ns.length)]
      rfl
    have tk : ns.take (k + 1) = ns.take k ++ [ns.getD k ""] := by
      rw [List.take_add_one, gk]
      rfl
    rw [tk]
    unfold lotsM at h
    rcases List.mem_append.mp h with z | z
    · exact (ih S z).trans (List.sublist_append_left _ _)
    · obtain ⟨l, hl, rfl⟩ := List.mem_map.mp z
      unfold offM
      rw [List.map_append]
      exact (ih l (List.mem_filter.mp hl).1).append (List.Sublist.refl _)
theorem sub_off (ns : List Str) (m : Nat) : ∀ (k : Nat), k ≤ ns.length → ∀ G : List Str, G.Sublist (ns.take k) → G.length ≤ m → ∃ S ∈ lotsM m k, offM ns S = G
  | 0, _, G, h, _ => by
    have : G = [] := List.sublist_nil.mp h
    subst this
    exact ⟨[], List.mem_cons_self, rfl⟩
  | k + 1, hk, G, h, hm => by
    have ih := sub_off ns m k (by omega)
    have gk : ns[k]? = some (ns.getD k "") := by
      rw [List.getD_eq_getElem?_getD, List.getElem?_eq_getElem (by omega : k < ns.length)]
      rfl
    have tk : ns.take (k + 1) = ns.take k ++ [ns.getD k ""] := by
      rw [List.take_add_one, gk]
      rfl
    rw [tk] at h
    obtain ⟨G1, G2, rfl, h1, h2⟩ := List.sublist_append_iff.mp h
    rw [List.length_append] at hm
    obtain ⟨S, hS, e⟩ := ih G1 h1 (by omega)
    have hG2 : G2 = [] ∨ G2 = [ns.getD k ""] := by
      cases h2 with
      | cons _ h3 => exact .inl (List.sublist_nil.mp h3)
      | cons_cons _ h3 => exact .inr (by rw [List.sublist_nil.mp h3])
    rcases hG2 with rfl | rfl
    · exact ⟨S, lots_mono m (Nat.le_succ k) S hS, by rw [e, List.append_nil]⟩
    · refine ⟨S ++ [k], ?_, by unfold offM at *; rw [List.map_append, e]; rfl⟩
      show _ ∈ lotsM m k ++ _
      have ls : S.length = G1.length := by rw [← e]; unfold offM; rw [List.length_map]
      have hm2 : G1.length + 1 ≤ m := hm
      exact List.mem_append_right _ (List.mem_map.mpr ⟨S, List.mem_filter.mpr ⟨hS, decide_eq_true (by omega)⟩, rfl⟩)
theorem lot_ris {ns : List Str} (hp : ns.Pairwise slt) {S : List Nat} (h : S ∈ lotsM ns.length ns.length) : Ris ns (offM ns S) := by
  have s := off_sub ns ns.length ns.length (Nat.le_refl _) S h
  rw [List.take_length] at s
  exact ⟨hp.sublist s, fun x hx => s.subset hx⟩
theorem ris_lot {ns : List Str} (hp : ns.Pairwise slt) {G : List Str} (r : Ris ns G) : ∃ S ∈ lotsM ns.length ns.length, offM ns S = G := by
  have s := ris_sub hp r
  refine sub_off ns ns.length ns.length (Nat.le_refl _) G (by rw [List.take_length]; exact s) s.length_le
theorem grp_len {ns : List Str} (hp : ns.Pairwise slt) (s : Nat) : (grpM ns s).length ≤ 2 ^ ns.length := by
  have nd : (grpM ns s).Nodup := (grp_up hp s).imp fun h e => by
    rw [e, ltS_self] at h
    cases h
  have := nodup_sub_len (m := (lotsM ns.length ns.length).map (offM ns)) nd fun G hG => by
    obtain ⟨S, hS, e⟩ := ris_lot hp (grp_ris hG).1
    exact List.mem_map.mpr ⟨S, hS, e⟩
  rw [List.length_map] at this
  exact Nat.le_trans this (lots_len _ _)
/-! the names of a plan, rising -/
def nsM (pl : List Rw) : List Str := (pl.map (·.nm)).mergeSort (PySem.W.dataLe false PyData.str)
theorem ns_pm (pl : List Rw) : (nsM pl).Perm (pl.map (·.nm)) := List.mergeSort_perm _ _
theorem ns_up {pl : List Rw} (nd : (pl.map (·.nm)).Nodup) : (nsM pl).Pairwise slt := by
  have so : (nsM pl).Pairwise fun a b => PySem.W.dataLe false PyData.str a b = true := PySem.W.sort_pairwise (PySem.W.sortLe_total _ false _) _
  have nd2 : (nsM pl).Pairwise (· ≠ ·) := (ns_pm pl).nodup_iff.mpr nd
  refine (nd2.and so).imp fun {a b} ⟨ne, le⟩ => ?_
  have h2 : (!PySem.W.dataLt (.str b) (.str a)) = true := le
  rw [PySem.W.dataLt_str] at h2
  exact cps_tri ne (by simpa using h2)
theorem ns_len (pl : List Rw) : (nsM pl).length = pl.length := by rw [(ns_pm pl).length_eq, List.length_map]
/-- what is called off: the first of the fewest -/
structure CO (cs : List Cs) (pl : List Rw) (m : Nat) (minute : Int) (G : List Str) : Prop where
  ris : Ris (nsM pl) G
  ok : lastM cs (restM pl G) m ≤ minute
  least : ∀ G', Ris (nsM pl) G' → lastM cs (restM pl G') m ≤ minute → ltP G' G = false
theorem CO.uniq {cs : List Cs} {pl : List Rw} {m : Nat} {minute : Int} {G G' : List Str} (a : CO cs pl m minute G) (b : CO cs pl m minute G') : G = G' := ltP_eq (b.least G a.ris a.ok) (a.least G' b.ris b.ok)
theorem rest_all {pl : List Rw} : restM pl (nsM pl) = [] := by
  unfold restM
  rw [List.filter_eq_nil_iff]
  intro r hr
  have : r.nm ∈ nsM pl := (ns_pm pl).mem_iff.mpr (List.mem_map.mpr ⟨r, hr, rfl⟩)
  have e : ((nsM pl).any fun x => x == r.nm) = true := List.any_eq_true.mpr ⟨r.nm, this, by simp⟩
  rw [e]
  decide
theorem last_nil (cs : List Cs) (m : Nat) : lastM cs [] m = 0 := rfl
theorem ok_rest {cs : List Cs} {pl : List Rw} (ok : OkP cs pl) (G : List Str) : OkP cs (restM pl G) := ⟨ok.nd, ok.lc, Nat.le_trans (List.length_filter_le _ _) ok.lp, fun r hr => ok.mem r (List.mem_filter.mp hr).1, ok.okn, ok.okt⟩
/-- the walk over all groups, the smaller first -/
theorem co_found {cs : List Cs} {pl : List Rw} {m : Nat} {minute : Int} (nd : (pl.map (·.nm)).Nodup) {s j : Nat} {G : List Str} (hG : (grpM (nsM pl) s)[j]? = some G) (ok : lastM cs (restM pl G) m ≤ minute)
    (h1 : ∀ t, t < s → ∀ G' ∈ grpM (nsM pl) t, ¬ lastM cs (restM pl G') m ≤ minute) (h2 : ∀ i, i < j → ∀ G', (grpM (nsM pl) s)[i]? = some G' → ¬ lastM cs (restM pl G') m ≤ minute) : CO cs pl m minute G := by
  have hp := ns_up nd
  obtain ⟨r, l⟩ := grp_ris (List.mem_of_getElem? hG)
  refine ⟨r, ok, fun G' r' ok' => ?_⟩
  have mem := ris_grp G'.length r' rfl
  have ge : s ≤ G'.length := Nat.not_lt.mp fun z => h1 _ z G' mem ok'
  unfold ltP
  by_cases e : G'.length = G.length
  · rw [if_pos e]
    rw [e, l] at mem
    obtain ⟨i, hi, ei⟩ := List.mem_iff_getElem.mp mem
    have hi2 : (grpM (nsM pl) s)[i]? = some G' := by rw [List.getElem?_eq_getElem hi, ei]
    have hj := (List.getElem?_eq_some_iff.mp hG).1
    have ej : (grpM (nsM pl) s)[j] = G := by rw [List.getElem?_eq_getElem hj] at hG; exact Option.some.inj hG
    rcases Nat.lt_trichotomy i j with z | z | z
    · exact absurd ok' (h2 i z G' hi2)
    · subst z
      rw [hG] at hi2
      rw [Option.some.inj hi2, ltS_self]
    · have := List.pairwise_iff_getElem.mp (grp_up hp s) j i hj hi z
      rw [ei, ej] at this
      exact ltS_asym e.symm this
  · rw [if_neg e]
    exact decide_eq_false (by omega)
theorem co_all {cs : List Cs} {pl : List Rw} {m : Nat} {minute : Int} (nd : (pl.map (·.nm)).Nodup) (h0 : 0 ≤ minute) (h1 : ∀ t, t < (nsM pl).length → ∀ G' ∈ grpM (nsM pl) t, ¬ lastM cs (restM pl G') m ≤ minute) : CO cs pl m minute (nsM pl) := by
  have hp := ns_up nd
  refine ⟨⟨hp, fun _ h => h⟩, by rw [rest_all]; exact h0, fun G' r' ok' => ?_⟩
  have ge : (nsM pl).length ≤ G'.length := Nat.not_lt.mp fun z => h1 _ z G' (ris_grp _ r' rfl) ok'
  have s := ris_sub hp r'
  have : G' = nsM pl := s.eq_of_length (Nat.le_antisymm s.length_le ge)
  rw [this, ltP_self]
/-- the walk over all lots, the best so far -/
structure Best (P : List Str → Prop) (L : List (List Str)) (b : Option (List Str)) : Prop where
  no : b = none → ∀ G ∈ L, ¬ P G
  ok : ∀ G, b = some G → G ∈ L ∧ P G ∧ ∀ G' ∈ L, P G' → ltP G' G = false
theorem best_nil (P : List Str → Prop) : Best P [] none := ⟨(fun _ _ z => nomatch z), fun _ z => nomatch z⟩
theorem best_skip {P : List Str → Prop} {L : List (List Str)} {b : Option (List Str)} {G : List Str} (h : Best P L b) (k : ¬ P G ∨ ∃ B, b = some B ∧ ltP G B = false) : Best P (L ++ [G]) b := by
  refine ⟨fun e G' hG' => ?_, fun B e => ?_⟩
  · rcases List.mem_append.mp hG' with z | z
    · exact h.no e G' z
    · rw [List.mem_singleton] at z
      rw [z]
      rcases k with k | ⟨B, e2, _⟩
      · exact k
      · rw [e] at e2; cases e2
  · obtain ⟨a, b2, c⟩ := h.ok B e
    refine ⟨List.mem_append_left _ a, b2, fun G' hG' p => ?_⟩
    rcases List.mem_append.mp hG' with z | z
    · exact c G' z p
    · rw [List.mem_singleton] at z
      rw [z] at p ⊢
      rcases k with k | ⟨B2, e2, k⟩
      · exact absurd p k
      · rw [e] at e2; cases e2; exact k
theorem best_take {P : List Str → Prop} {L : List (List Str)} {b : Option (List Str)} {G : List Str} (h : Best P L b) (p : P G) (k : ∀ B, b = some B → ltP G B = true) : Best P (L ++ [G]) (some G) := by
  refine ⟨fun e => (nomatch e), fun B e => ?_⟩
  cases e
  refine ⟨List.mem_append_right _ (List.mem_singleton.mpr rfl), p, fun G' hG' p' => ?_⟩
  rcases List.mem_append.mp hG' with z | z
  · cases b with
    | none => exact absurd p' (h.no rfl G' z)
    | some B =>
      have h3 := (h.ok B rfl).2.2 G' z p'
      cases q : ltP G' G with
      | false => rfl
      | true =>
        rw [ltP_trans q (k B rfl)] at h3
        cases h3
  · rw [List.mem_singleton] at z
    rw [z, ltP_self]
theorem best_co {cs : List Cs} {pl : List Rw} {m : Nat} {minute : Int} (nd : (pl.map (·.nm)).Nodup) (h0 : 0 ≤ minute) {b : Option (List Str)} (h : Best (fun G => lastM cs (restM pl G) m ≤ minute) ((lotsM (nsM pl).length (nsM pl).length).map (offM (nsM pl))) b) : ∃ G, b = some G ∧ CO cs pl m minute G := by
  have hp := ns_up nd
  cases b with
  | none =>
    obtain ⟨S, hS, e⟩ := ris_lot hp ⟨hp, fun _ h => h⟩
    exact absurd (by rw [e, rest_all]; exact h0) (h.no rfl (offM (nsM pl) S) (List.mem_map.mpr ⟨S, hS, rfl⟩))
  | some G =>
    obtain ⟨a, c, d⟩ := h.ok G rfl
    obtain ⟨S, hS, rfl⟩ := List.mem_map.mp a
    refine ⟨_, rfl, lot_ris hp hS, c, fun G' r' ok' => ?_⟩
    obtain ⟨S', hS', rfl⟩ := ris_lot hp r'
    exact d _ (List.mem_map.mpr ⟨S', hS', rfl⟩) ok'
end Go
namespace Go
open PySem PySem.Spec PyProof.Rows L2 SetMix ZipE
local macro_rules | `(tactic| walk_at "g") => `(tactic| first
  | ((with_reducible refine gd_var (d := ?dd) ?hv ?_); (case hv => exact rfl))
  | ((with_reducible refine gd_ixScr (ns := ?ns) ?hv ?_); (case hv => exact rfl))
  | ((with_reducible refine gd_ixCel (j := ?jj) ?hv ?_); (case hv => exact rfl))
  | ((with_reducible refine gd_lenScr (ns := ?ns) ?hv ?_); (case hv => exact rfl))
  | with_reducible first
    | refine gs_seq ?_ | refine gs_next ?_ | refine gs_ret ?_ | refine gs_asgD ?_ | refine gs_if ?_
    | refine gt_test ?_ | refine gt_B ?_ | refine gt_and ?_ | refine gt_or ?_ | refine gt_not ?_ | refine gt_yes ?_
    | refine gd_int ?_ | refine gd_str ?_ | refine gd_bl ?_ | refine gd_non ?_
    | refine gd_op ?_ | refine gd_tup ?_ | refine gd_lst ?_
    | refine gd_cb (r := rLenA _) ?_ | refine gd_cb (r := rTupleA _) ?_ | refine gd_cb (r := rAbsA) ?_ | refine gd_cb (r := rMax2A) ?_ | refine gd_cb (r := rMin2A) ?_ | refine gd_cb (r := rIntA) ?_ | refine gd_cb (r := rAny _) ?_ | refine gd_cb (r := rAll _) ?_ | refine gd_cb (r := rDictP _) ?_ | refine gd_cb (r := rMax _) ?_ | refine gd_cb (r := rMin _) ?_
    | refine gs_cons ?_ | refine gs_nil ?_ | refine gd_dget ?_
    | refine gd_and ?_ | refine gd_or ?_ | refine gd_not ?_
    | refine opd_addI ?_ | refine opd_sub ?_ | refine opd_lt ?_ | refine opd_le ?_ | refine opd_gt ?_ | refine opd_ge ?_
    | refine opd_lenL ?_ | refine opd_lenT ?_ | refine opd_tupleL ?_ | refine opd_tupleT ?_ | refine opd_max2 ?_ | refine opd_min2 ?_ | refine opd_abs ?_ | refine opd_intB ?_
    | refine Exists.intro _ (And.intro rfl ?_))
def Rlast_end : RSpec := fun ss g post => ∃ cs pl, ∃ m : Nat, ss = [.d (encCs cs), .d (encP pl), .d (.int (m : Int))] ∧ g = [] ∧ OkP cs pl ∧ (∀ c ∈ cs, c.tm.length ≤ 1000) ∧ m ≤ 1000 ∧ post (.int (lastM cs pl m)) []
def Rwithout : RSpec := fun ss g post => ∃ pl G, ss = [.d (encP pl), .d (tupS G)] ∧ g = [] ∧ pl.length ≤ 1000 ∧ post (encP (restM pl G)) []
def Rall_groups : RSpec := fun ss g post => ∃ ns, ∃ s : Nat, ss = [.d (.list (ns.map PyData.str)), .d (.int (s : Int))] ∧ g = [] ∧ ns.length ≤ 8 ∧ s ≤ 8 ∧ ns.Pairwise slt ∧ (∀ x ∈ ns, okS x) ∧ post (.list ((grpM ns s).map tupS)) []
def Rcalled_off : RSpec := fun ss g post => ∃ cs pl, ∃ (m : Nat) (minute : Int), ss = [.d (encCs cs), .d (encP pl), .d (.int (m : Int)), .d (.int minute)] ∧ g = [] ∧ OkP cs pl ∧ (∀ c ∈ cs, c.tm.length ≤ 1000) ∧ m ≤ 1000 ∧ (pl.map (·.nm)).Nodup ∧ 0 ≤ minute ∧ ∀ G, CO cs pl m minute G → post (tupS G) []
def R_law_dealt : RSpec := fun ss g post => ∃ cs pl, ∃ m : Nat, ss = [.d (encCs cs), .d (encP pl), .d (.int (m : Int))] ∧ g = [] ∧ OkP cs pl ∧ (∀ c ∈ cs, c.tm.length ≤ 1000) ∧ m ≤ 1000 ∧ (∀ r ∈ pl, 0 ≤ r.st) ∧ (∀ c ∈ cs, 0 ≤ c.us) ∧ post (.int (lastM cs pl m)) []
theorem any_strs (p : Str) : ∀ (xs : List Str), ((xs.map PyData.str).any fun y => PyData.eqv y (.str p)) = xs.any fun q => q == p := any_team p
theorem lay_tupS {G : List Str} (h : ∀ x ∈ G, okS x) : (tupS G).canLay0 = true := by
  unfold tupS PyData.canLay0
  exact lay_strs h
theorem dep_tupS (G : List Str) : (tupS G).depth ≤ 1 := by
  unfold tupS PyData.depth
  rw [dep_strs]
  decide
theorem alike_strs : ∀ a b : List Str, PySem.W.alikeAll (a.map PyData.str) (b.map PyData.str) = true
  | [], _ => by simp [PySem.W.alikeAll]
  | _ :: _, [] => by simp [PySem.W.alikeAll]
  | x :: a, y :: b => by
    rw [List.map_cons, List.map_cons]
    unfold PySem.W.alikeAll
    rw [alike_strs a b]
    simp [PySem.W.alike]
theorem alike_tupS (a b : List Str) : PySem.W.alike (tupS a) (tupS b) = true := by
  unfold tupS PySem.W.alike
  exact alike_strs a b
theorem cut_last (G : List Str) : cutD (G.map PyData.str) (some (-1)) none = (match G.getLast? with | none => [] | some l => [PyData.str l]) := by
  cases z : G.getLast? with
  | none =>
    rw [List.getLast?_eq_none_iff] at z
    subst z
    rfl
  | some l =>
    obtain ⟨t, rfl⟩ := List.getLast?_eq_some_iff.mp z
    unfold cutD
    have e : HT.sIx ((t ++ [l]).map PyData.str).length 0 (some (-1)) = t.length := by
      unfold HT.sIx
      rw [List.length_map, List.length_append]
      show _ = _
      simp
      omega
    rw [e, HT.sIx_none, List.map_append, List.drop_append_of_le_length (by rw [List.length_map]; exact Nat.le_refl _)]
    have e2 : (t.map PyData.str).drop t.length = [] := by
      rw [List.drop_eq_nil_iff, List.length_map]
      exact Nat.le_refl _
    rw [e2]
    have e3 : (t.map PyData.str ++ [l].map PyData.str).length - t.length = 1 := by simp
    rw [e3]
    rfl
theorem gt_data (G : List Str) (x : Str) : PySem.W.dataLt (.tuple (cutD (G.map PyData.str) (some (-1)) none)) (.tuple [.str x]) = gtB G x := by
  rw [cut_last]
  unfold gtB
  cases z : G.getLast? with
  | none => first | rfl | decide | (simp [PySem.W.dataLt, PySem.W.keyToks, PySem.W.keyToksAll, lex_cons, lex_irrefl, itemLt]; done)
  | some l =>
    show ltS [l] [x] = decide (slt l x)
    rw [ltS_cons]
    by_cases e : l = x
    · rw [if_pos e, ltS_nil, e, decide_eq_false (slt_irr x)]
    · rw [if_neg e]
section
variable {K : PySem.W.Frag} {wd : PySem.World} {n : Nat} {ρ ts : List SV} {g : List Cell}
def tlast_end (K : PySem.W.Frag) (wd : PySem.World) : TS := (tRet (tCB (rMax K) (tCons (tOp (rAddA K) (tLst (tCons (tC (.int 0)) tNil)) (tLc (iList K (tCall (spOf K Rlatest) [] E0 (tCons (tVar 0) (tCons (tVar 1) (tCons (tVar 2) tNil))))) (gTup K 3 (gCons (gName 3) (gCons (gName 4) (gCons (gName 5) gNil)))) tYes (tVar 5) [3, 4, 5])) tNil)))
def encEn (t : T3) : D := .int t.2.2
theorem lat_len (cs : List Cs) (pl : List Rw) (m : Nat) : (latM cs pl m).length = pl.length := by unfold latM; rw [List.length_map, List.length_range]
theorem go_last_end (ss : List SV) (g : List Cell) (post : D → List Cell → Prop) (h : Rlast_end ss g post) : GoS K g.length (tlast_end K wd) (ss ++ List.replicate (6 - ss.length) .no) g (KF g.length post) := by
  obtain ⟨cs, pl, m, rfl, rfl, ok, okl, hm, p⟩ := h
  unfold tlast_end
  have l8 := ok.lp
  have ll := lat_len cs pl m
  refine gs_ret (gd_cb (r := rMax K) (gs_cons (gd_op (gd_lst (gs_cons (gd_int (gs_nil ⟨by show 1 ≤ 100000; decide, ?_⟩)))))))
  refine gd_mapT encT encEn mg3 (ij3 (by simp) (by simp) (by simp)) (gi_list (gd_call (gs_cons (gd_var rfl (gs_cons (gd_var rfl (gs_cons (gd_var rfl (gs_nil ⟨cs, pl, m, rfl, rfl, ok, okl, hm, _, rfl, latM cs pl m, rfl, by omega, fun i t ht => gg3 (gd_var rfl ⟨rfl, rfl⟩), ?_⟩)))))))))
  refine opd_addL (by rw [List.length_map]; show 1 + _ ≤ 100000; omega) ?_
  have e : [PyData.int 0] ++ (latM cs pl m).map encEn = (0 :: (latM cs pl m).map (·.2.2)).map PyData.int := by
    rw [List.map_cons, List.map_map]
    rfl
  rw [e]
  refine gs_nil (opd_maxL (by simp) fun b h1 h2 => ⟨_, rfl, ?_⟩)
  rw [bgn_max h1 h2]
  exact p
def twithout (K : PySem.W.Frag) (wd : PySem.World) : TS := (tRet (tCB (rTupleA K) (tCons (tLc (iTup K (tVar 0)) (gName 2) (tTest (tOp (rIn K true) (tOp (rIx K) (tVar 2) (tC (.int 1))) (tVar 1))) (tVar 2) [2]) tNil)))
theorem go_without (ss : List SV) (g : List Cell) (post : D → List Cell → Prop) (h : Rwithout ss g post) : GoS K g.length (twithout K wd) (ss ++ List.replicate (3 - ss.length) .no) g (KF g.length post) := by
  obtain ⟨pl, G, rfl, rfl, hl, p⟩ := h
  unfold twithout
  refine gs_ret (gd_cb (r := rTupleA K) (gs_cons (gd_filT encR encR (fun r => !(G.any fun x => x == r.nm)) mg_name (ij_name (by simp)) (gi_tup (gd_var rfl ⟨_, rfl, pl, rfl, by omega, fun i r hr => gg_name ?_, ?_⟩)))))
  · refine gt_test (gd_op (gd_op (gd_var rfl (gd_int (opd_ixT (d := .str r.nm) rfl (gd_var rfl (opd_inT rfl (flat_strs _) ⟨_, rfl, rfl, ?_, gd_var rfl ⟨rfl, rfl⟩⟩)))))))
    rw [any_team]
    rfl
  · exact gs_nil (opd_tupleL ⟨_, rfl, p⟩)
def tall_groups (K : PySem.W.Frag) (wd : PySem.World) : TS := (tSeq (tAsg (tLst (tCons (tTup tNil) tNil)) (gName 2)) (tSeq (tFor (iRng1 (tCons (tVar 1) tNil)) (gName 3) (tAsg (tLc2 (iList K (tVar 2)) (gName 4) tYes (iList K (tVar 0)) (gName 5) (tTest (tOp (rLtD K) (tSl (rSlA K) (tVar 4) (tPart (tUn (rU fun i => .int (-i)) (tC (.int 1)))) tNoPart) (tTup (tCons (tVar 5) tNil)))) (tOp (rAddA K) (tVar 4) (tTup (tCons (tVar 5) tNil))) [4, 5] [5]) (gName 2))) (tRet (tVar 2))))
def resG (G : List Str) (x : Str) : D := tupS (G ++ [x])
theorem go_all_groups (ss : List SV) (g : List Cell) (post : D → List Cell → Prop) (h : Rall_groups ss g post) : GoS K g.length (tall_groups K wd) (ss ++ List.replicate (6 - ss.length) .no) g (KF g.length post) := by
  obtain ⟨ns, s, rfl, rfl, ln, hs, hp, okn, p⟩ := h
  unfold tall_groups
  refine gs_seq (gs_asgD (gd_lst (gs_cons (gd_tup (gs_nil ⟨by decide, gs_nil ⟨by decide, ?_⟩⟩)))))
  refine gs_seq (gs_for (gi_rng1 (gs_cons (gd_var rfl (gs_nil ⟨_, rfl, by omega, by omega, ?_⟩)))))
  rw [Int.toNat_natCast]
  refine ⟨fun i ρ g => ∃ (x3 : SV), ρ = [.d (.list (ns.map PyData.str)), .d (.int (s : Int)), .d (.list ((grpM ns i).map tupS)), x3, .no, .no] ∧ g = [], ⟨.no, rfl, rfl⟩, fun i d ρ' g' hi ⟨x3, e1, e2⟩ _ => ?_, fun ρ' g' ⟨x3, e1, e2⟩ _ => ?_⟩
  · subst e1 e2
    obtain ⟨rfl, li⟩ := rng_at hi
    have l1 : (grpM ns i).length ≤ 256 := Nat.le_trans (grp_len hp i) (Nat.le_trans (Nat.pow_le_pow_right (by decide) ln) (by decide))
    have l2 : (grpM ns i).length * ns.length ≤ 256 * 8 := Nat.mul_le_mul l1 ln
    refine gg_name (gs_asgD (gd_lc2T tupS PyData.str ns gtB resG mg_name (ij_name (by simp)) mg_name (ij_name (by simp)) (gi_list (gd_var rfl ⟨_, rfl, grpM ns i, rfl, by omega, fun a G hG => gg_name (gi_list (gd_var rfl ⟨_, rfl, rfl, rfl, fun b x hx => gg_name ?_⟩)), ?_⟩))))
    · obtain ⟨r, lg⟩ := grp_ris (List.mem_of_getElem? hG)
      have okG : ∀ y ∈ G, okS y := fun y hy => okn y (r.mem y hy)
      have okx : okS x := okn x (List.mem_of_getElem? hx)
      have ec := cut_last G
      have cl : (PyData.tuple (cutD (G.map PyData.str) (some (-1)) none)).canLay0 = true ∧ (PyData.tuple (cutD (G.map PyData.str) (some (-1)) none)).depth ≤ 60 ∧ PySem.W.alike (.tuple (cutD (G.map PyData.str) (some (-1)) none)) (.tuple [.str x]) = true := by
        rw [ec]
        cases z : G.getLast? with
        | none => exact ⟨by decide, by decide, by simp [PySem.W.alike, PySem.W.alikeAll]⟩
        | some l =>
          have := okG l (List.mem_of_getLast? z)
          exact ⟨lay_tupS (G := [l]) (fun y hy => by rw [List.mem_singleton] at hy; rw [hy]; exact this), Nat.le_trans (dep_tupS [l]) (by decide), alike_tupS [l] [x]⟩
      refine gt_test (gd_op (gd_slT (gd_var rfl ⟨_, rfl, go_some (gd_un (gd_int (opd_neg ⟨_, rfl, go_none ?_⟩)))⟩)))
      refine gd_tup (gs_cons (gd_var rfl (gs_nil ⟨by show 1 ≤ 100000; decide, opd_ltD cl.2.2 (fun z => nomatch z) cl.2.1 cl.1 (lay_tupS (G := [x]) fun y hy => by rw [List.mem_singleton] at hy; rw [hy]; exact okx) ⟨_, rfl, rfl, gt_data G x, ?_⟩⟩)))
      refine gd_op (gd_var rfl (gd_tup (gs_cons (gd_var rfl (gs_nil ⟨by show 1 ≤ 100000; decide, opd_addT (ds := G.map PyData.str) (es := [.str x]) (by rw [List.length_map]; show _ + 1 ≤ 100000; omega) ⟨rfl, ?_⟩⟩)))))
      unfold resG tupS
      rw [List.map_append]
      rfl
    · refine ⟨.d (.int (i : Int)), ?_, rfl⟩
      have e : (grpM ns (i + 1)).map tupS = (grpM ns i).flatMap fun a => (ns.filter (gtB a)).map (resG a) := by
        show (List.flatMap _ _).map tupS = _
        rw [List.map_flatMap]
        congr 1
        funext a
        rw [List.map_map]
        rfl
      rw [e]
      rfl
  · subst e1 e2
    rw [rngD_len]
    exact gs_ret (gd_var rfl ⟨_, rfl, p⟩)
theorem sort_strs (xs : List Str) : sortD (xs.map PyData.str) = (xs.mergeSort (PySem.W.dataLe false PyData.str)).map PyData.str := (PySem.W.sort_maps (r := PySem.W.dataLe false PyData.str) (s := PySem.W.dataLe false id) (l := xs) PyData.str (fun a _ b _ => rfl)).symm
theorem sorted_strs {xs : List Str} {post : D → Prop} (h : ∀ x ∈ xs, okS x) (p : post (.list ((xs.mergeSort (PySem.W.dataLe false PyData.str)).map PyData.str))) : OpD K (rSortedA K wd) [.list (xs.map PyData.str)] post := by
  refine opd_sorted (PySem.W.AllAlike.of fun a b => by simp [PySem.W.alike]) (PySem.W.Sortable.others fun r => by simp) (fun d hd => ?_) ?_
  · obtain ⟨x, hx, rfl⟩ := List.mem_map.mp hd
    exact ⟨h x hx, by simp [PyData.depth]⟩
  · rw [sort_strs]
    exact p
def tcalled_off (K : PySem.W.Frag) (wd : PySem.World) : TS := (tSeq (tAsg (tCB (rSortedA K wd) (tCons (tLc (iTup K (tVar 1)) (gTup K 3 (gCons (gName 7) (gCons (gName 8) (gCons (gName 9) gNil)))) tYes (tVar 8) [7, 8, 9]) tNil)) (gName 4)) (tSeq (tFor (iRng1 (tCons (tCB (rLenA K) (tCons (tVar 4) tNil)) tNil)) (gName 5) (tFor (iList K (tCall (spOf K Rall_groups) [] E0 (tCons (tVar 4) (tCons (tVar 5) tNil)))) (gName 6) (tIfS (tTest (tOp (rI0 fun i j => V.bl (decide (i ≤ j))) (tCall (spOf K Rlast_end) [] E0 (tCons (tVar 0) (tCons (tCall (spOf K Rwithout) [] E0 (tCons (tVar 1) (tCons (tVar 6) tNil))) (tCons (tVar 2) tNil)))) (tVar 3))) (tRet (tVar 6)) tNext))) (tRet (tCB (rTupleA K) (tCons (tVar 4) tNil)))))
theorem go_called_off (ss : List SV) (g : List Cell) (post : D → List Cell → Prop) (h : Rcalled_off ss g post) : GoS K g.length (tcalled_off K wd) (ss ++ List.replicate (10 - ss.length) .no) g (KF g.length post) := by
  obtain ⟨cs, pl, m, minute, rfl, rfl, ok, okl, hm, nd, h0, p⟩ := h
  unfold tcalled_off
  have l8 := ok.lp
  have okr : ∀ r ∈ pl, okS r.nm := fun r hr => by
    obtain ⟨c, hc, e⟩ := ok.mem r hr
    rw [← e]
    exact ok.okn c hc
  have okns : ∀ x ∈ nsM pl, okS x := fun x hx => by
    obtain ⟨r, hr, rfl⟩ := List.mem_map.mp ((ns_pm pl).mem_iff.mp hx)
    exact okr r hr
  have lns := ns_len pl
  have hp := ns_up nd
  refine gs_seq (gs_asgD (gd_cb (r := rSortedA K wd) (gs_cons (gd_mapT encR encNm mg3 (ij3 (by simp) (by simp) (by simp)) (gi_tup (gd_var rfl ⟨_, rfl, pl, rfl, by omega, fun i r hr => gg3 (gd_var rfl ⟨rfl, rfl⟩), ?_⟩))))))
  have en : pl.map encNm = (pl.map (·.nm)).map PyData.str := by rw [List.map_map]; rfl
  rw [en]
  refine gs_nil (sorted_strs (fun x hx => okns x ((ns_pm pl).mem_iff.mpr hx)) ?_)
  refine gs_seq (gs_for (gi_rng1 (gs_cons (gd_cb (r := rLenA K) (gs_cons (gd_var rfl (gs_nil (opd_lenL (gs_nil ⟨_, rfl, by rw [List.length_map]; have := lns; unfold nsM at this; omega, by rw [List.length_map]; have := lns; unfold nsM at this; omega, ?_⟩)))))))))
  rw [Int.toNat_natCast, List.length_map]
  show ∃ Iv : Nat → List SV → List Cell → Prop, _
  refine ⟨fun i ρ g => ∃ (x5 x6 : SV), ρ = [.d (encCs cs), .d (encP pl), .d (.int (m : Int)), .d (.int minute), .d (.list ((nsM pl).map PyData.str)), x5, x6, .no, .no, .no] ∧ g = [] ∧ ∀ t, t < i → ∀ G' ∈ grpM (nsM pl) t, ¬ lastM cs (restM pl G') m ≤ minute, ⟨.no, .no, rfl, rfl, fun t ht => absurd ht (by omega)⟩, fun i d ρ' g' hi ⟨x5, x6, e1, e2, hf⟩ _ => ?_, fun ρ' g' ⟨x5, x6, e1, e2, hf⟩ _ => ?_⟩
  · subst e1 e2
    obtain ⟨rfl, li⟩ := rng_at hi
    have li2 : i < (nsM pl).length := li
    refine gg_name (gs_for (gi_list (gd_call (gs_cons (gd_var rfl (gs_cons (gd_var rfl (gs_nil ⟨nsM pl, i, rfl, rfl, by omega, by omega, hp, okns, _, rfl, ?_⟩))))))))
    refine ⟨fun j ρ g => ∃ (x6 : SV), ρ = [.d (encCs cs), .d (encP pl), .d (.int (m : Int)), .d (.int minute), .d (.list ((nsM pl).map PyData.str)), .d (.int (i : Int)), x6, .no, .no, .no] ∧ g = [] ∧ ∀ t, t < j → ∀ G', (grpM (nsM pl) i)[t]? = some G' → ¬ lastM cs (restM pl G') m ≤ minute, ⟨x6, rfl, rfl, fun t ht => absurd ht (by omega)⟩, fun j d ρ' g' hj ⟨x6, e1, e2, hg⟩ _ => ?_, fun ρ' g' ⟨x6, e1, e2, hg⟩ _ => ?_⟩
    · subst e1 e2
      obtain ⟨G, hG, rfl⟩ := at_map hj
      refine gg_name (gs_if (gt_test (gd_op (gd_call (gs_cons (gd_var rfl (gs_cons (gd_call (gs_cons (gd_var rfl (gs_cons (gd_var rfl (gs_nil ⟨pl, G, rfl, rfl, by omega, ?_⟩)))))))))))))
      refine gs_cons (gd_var rfl (gs_nil ⟨cs, restM pl G, m, rfl, rfl, ok_rest ok G, okl, hm, ?_⟩))
      refine gd_var rfl (opd_le ⟨_, rfl, fun hb => ?_, fun hb => gs_next ⟨.d (tupS G), rfl, rfl, fun t ht G' hG' => ?_⟩⟩)
      · have hle := of_decide_eq_true hb
        exact gs_ret (gd_var rfl ⟨_, rfl, ⟨_, rfl, _, rfl, p G (co_found nd hG hle hf hg)⟩⟩)
      · have hle := of_decide_eq_false hb
        by_cases e : t < j
        · exact hg t e G' hG'
        · have e2 : t = j := by omega
          subst e2
          rw [hG] at hG'
          cases hG'
          exact hle
    · subst e1 e2
      rw [List.length_map] at hg
      refine ⟨_, _, rfl, rfl, fun t ht G' hG' => ?_⟩
      by_cases e : t < i
      · exact hf t e G' hG'
      · have e2 : t = i := by omega
        subst e2
        obtain ⟨j, hj, ej⟩ := List.mem_iff_getElem.mp hG'
        exact hg j hj G' (by rw [List.getElem?_eq_getElem hj, ej])
  · subst e1 e2
    rw [rngD_len] at hf
    refine gs_ret (gd_cb (r := rTupleA K) (gs_cons (gd_var rfl (gs_nil (opd_tupleL ⟨_, rfl, p _ (co_all nd h0 hf)⟩)))))
end
end Go
namespace Go
open PySem PySem.Spec PyProof.Rows L2 SetMix ZipE
local macro_rules | `(tactic| walk_at "g") => `(tactic| first
  | ((with_reducible refine gd_var (d := ?dd) ?hv ?_); (case hv => exact rfl))
  | ((with_reducible refine gd_ixScr (ns := ?ns) ?hv ?_); (case hv => exact rfl))
  | ((with_reducible refine gd_ixCel (j := ?jj) ?hv ?_); (case hv => exact rfl))
  | ((with_reducible refine gd_lenScr (ns := ?ns) ?hv ?_); (case hv => exact rfl))
  | with_reducible first
    | refine gs_seq ?_ | refine gs_next ?_ | refine gs_ret ?_ | refine gs_asgD ?_ | refine gs_if ?_
    | refine gt_test ?_ | refine gt_B ?_ | refine gt_and ?_ | refine gt_or ?_ | refine gt_not ?_ | refine gt_yes ?_
    | refine gd_int ?_ | refine gd_str ?_ | refine gd_bl ?_ | refine gd_non ?_
    | refine gd_op ?_ | refine gd_tup ?_ | refine gd_lst ?_
    | refine gd_cb (r := rLenA _) ?_ | refine gd_cb (r := rTupleA _) ?_ | refine gd_cb (r := rAbsA) ?_ | refine gd_cb (r := rMax2A) ?_ | refine gd_cb (r := rMin2A) ?_ | refine gd_cb (r := rIntA) ?_ | refine gd_cb (r := rAny _) ?_ | refine gd_cb (r := rAll _) ?_ | refine gd_cb (r := rDictP _) ?_ | refine gd_cb (r := rMax _) ?_ | refine gd_cb (r := rMin _) ?_
    | refine gs_cons ?_ | refine gs_nil ?_ | refine gd_dget ?_
    | refine gd_and ?_ | refine gd_or ?_ | refine gd_not ?_
    | refine opd_addI ?_ | refine opd_sub ?_ | refine opd_lt ?_ | refine opd_le ?_ | refine opd_gt ?_ | refine opd_ge ?_
    | refine opd_lenL ?_ | refine opd_lenT ?_ | refine opd_tupleL ?_ | refine opd_tupleT ?_ | refine opd_max2 ?_ | refine opd_min2 ?_ | refine opd_abs ?_ | refine opd_intB ?_
    | refine Exists.intro _ (And.intro rfl ?_))
def leR (cs : List Cs) (pl : List Rw) (m k : Nat) : List Int := (List.range (m + 1)).map (leV cs pl m k)
theorem leR_len (cs : List Cs) (pl : List Rw) (m k : Nat) : (leR cs pl m k).length = m + 1 := by unfold leR; rw [List.length_map, List.length_range]
theorem leR_at (cs : List Cs) (pl : List Rw) (m k : Nat) {c : Nat} (h : c ≤ m) : (leR cs pl m k).getD c 0 = leV cs pl m k c := by
  unfold leR
  rw [List.getD_eq_getElem?_getD, List.getElem?_map, List.getElem?_range (by omega)]
  rfl
def encLR (cs : List Cs) (pl : List Rw) (m k : Nat) : D := encL (leR cs pl m k)
def encLB (cs : List Cs) (pl : List Rw) (m k c : Nat) : D := .int (lbV cs pl m k c)
def encLV (cs : List Cs) (pl : List Rw) (m c k : Nat) : D := .int (leV cs pl m k c)
theorem ix_fun {f : Nat → D} {n a : Nat} (h : a < n) : atI ((List.range n).map f) (a : Int) = some (f a) := by
  refine atI_nat ?_
  rw [List.getElem?_map, List.getElem?_range h]
  rfl
theorem lb_ge (cs : List Cs) (pl : List Rw) {m c : Nat} (k : Nat) (hc : c ≤ m) : stAt pl k ≤ lbV cs pl m k c := by
  rw [lbV_eq cs pl k hc]
  exact bgn_ge.1
theorem range_at {n i a : Nat} (h : (List.range n)[i]? = some a) : a = i ∧ i < n := by
  have lt := (List.getElem?_eq_some_iff.mp h).1
  rw [List.length_range] at lt
  rw [List.getElem?_range lt] at h
  exact ⟨(Option.some.inj h).symm, lt⟩
theorem lat_ends (cs : List Cs) (pl : List Rw) (m : Nat) : (latM cs pl m).map (·.2.2) = (List.range pl.length).map fun k => leV cs pl m k m := by
  unfold latM
  rw [List.map_map]
  rfl
section
variable {K : PySem.W.Frag} {wd : PySem.World} {n : Nat} {ρ ts : List SV} {g : List Cell}
def t_law_dealt (K : PySem.W.Frag) (wd : PySem.World) : TS := (tSeq (tAsg (tCB (rDictP K) (tCons (tLc (iTup K (tVar 0)) (gName 13) tYes (tTup (tCons (tOp (rIx K) (tVar 13) (tC (.int 0))) (tCons (tVar 13) tNil))) [13]) tNil)) (gName 3)) (tSeq (tAsg (tCall (spOf K R_law_leans) [] E0 (tCons (tVar 0) (tCons (tVar 1) tNil))) (gName 4)) (tSeq (tAsg (tLst tNil) (gName 5)) (tSeq (tFor (iEnum1 K (tCons (tVar 1) tNil)) (gTup K 2 (gCons (gName 6) (gCons (gName 7) gNil))) (tSeq (tAsg (tLst tNil) (gName 8)) (tSeq (tAsg (tSl (rSlA K) (tDGet (tVar 3) (tOp (rIx K) (tVar 7) (tC (.int 1)))) (tPart (tC (.int 1))) (tPart (tC (.int 3)))) (gTup K 2 (gCons (gName 11) (gCons (gName 12) gNil)))) (tSeq (tAsg (tLc (iRng1 (tCons (tOp (rAddA K) (tVar 2) (tC (.int 1))) tNil)) (gName 10) tYes (tCB (rMax K) (tCons (tOp (rAddA K) (tLst (tCons (tOp (rIx K) (tVar 7) (tC (.int 0))) tNil)) (tLc (iTup K (tOp (rIx K) (tVar 4) (tVar 6))) (gName 14) tYes (tOp (rIx K) (tOp (rIx K) (tVar 5) (tVar 14)) (tVar 10)) [14])) tNil)) [10]) (gName 9)) (tSeq (tFor (iRng1 (tCons (tOp (rAddA K) (tVar 2) (tC (.int 1))) tNil)) (gName 10) (tDrop (tBM K "list" rAppend (tVar 8) (tCons (tCB rMax2A (tCons (tOp (rAddA K) (tOp (rIx K) (tVar 9) (tVar 10)) (tVar 11)) (tCons (tIf (tTest (tOp (rI0 fun i j => V.bl (decide (j < i))) (tVar 10) (tC (.int 0)))) (tOp (rAddA K) (tOp (rIx K) (tVar 9) (tCB rMax2A (tCons (tC (.int 0)) (tCons (tOp (rI0 fun i j => V.int (i - j)) (tVar 10) (tC (.int 1))) tNil)))) (tVar 12)) (tC (.int 0))) tNil))) tNil)))) (tDrop (tBM K "list" rAppend (tVar 5) (tCons (tVar 8) tNil)))))))) (tRet (tCB (rMax K) (tCons (tOp (rAddA K) (tLc (iList K (tVar 5)) (gName 8) tYes (tOp (rIx K) (tVar 8) (tVar 2)) [8]) (tLst (tCons (tC (.int 0)) tNil))) tNil)))))))
theorem go_law_dealt (ss : List SV) (g : List Cell) (post : D → List Cell → Prop) (h : R_law_dealt ss g post) : GoS K g.length (t_law_dealt K wd) (ss ++ List.replicate (15 - ss.length) .no) g (KF g.length post) := by
  obtain ⟨cs, pl, m, rfl, rfl, ok, okl, hm, hst, hus, p⟩ := h
  unfold t_law_dealt
  have l8 := ok.lp
  refine gs_seq (gs_asgD (gd_cb (r := rDictP K) (gs_cons (gd_mapT encC encCt mg_name (ij_name (by simp)) (gi_tup (gd_var rfl ⟨_, rfl, cs, rfl, by have := ok.lc; omega, fun i c hc => gg_name ?_, ?_⟩))))))
  · (repeat (walk_at "g"))
    refine opd_ixT (d := .str c.nm) rfl ?_
    (repeat (walk_at "g"))
    exact ⟨by show 2 ≤ 100000; decide, rfl, rfl⟩
  rw [enc_pr]
  refine gs_nil (opd_dict ?_)
  refine gs_seq (gs_asgD (gd_call (gs_cons (gd_var rfl (gs_cons (gd_var rfl (gs_nil ⟨cs, pl, rfl, rfl, ok, okl, ?_⟩)))))))
  refine gs_seq (gs_asg (ge_lstC (gs_nil ⟨by decide, ?_⟩)))
  refine gs_seq (gs_for (gi_enum (gs_cons (gd_var rfl (gs_nil ⟨_, _, rfl, .inr rfl, ?_⟩)))))
  refine ⟨fun i ρ g => ∃ (x6 x7 x8 x9 y0 y1 y2 : SV), ρ = [.d (encCs cs), .d (encP pl), .d (.int (m : Int)), .d (dct (dictC cs)), .d (.list ((leansM cs pl).map encN)), .c 0, x6, x7, x8, x9, y0, y1, y2, .no, .no] ∧ g = [some ((List.range i).map (encLR cs pl m))], ⟨.no, .no, .no, .no, .no, .no, .no, rfl, rfl⟩, fun i d ρ' g' hi ⟨x6, x7, x8, x9, y0, y1, y2, e1, e2⟩ _ => ?_, fun ρ' g' ⟨x6, x7, x8, x9, y0, y1, y2, e1, e2⟩ _ => ?_⟩
  · subst e1 e2
    obtain ⟨e, he, rfl⟩ := enum_get hi
    obtain ⟨r, hr, rfl⟩ := at_map he
    have li : i < pl.length := (List.getElem?_eq_some_iff.mp hr).1
    have mr : r ∈ pl := List.mem_of_getElem? hr
    have er : pl.getD i default = r := by rw [List.getD_eq_getElem?_getD, hr]; rfl
    have ecs : csAt cs pl i = getC cs r.nm := by unfold csAt; rw [er]
    have est : stAt pl i = r.st := by unfold stAt; rw [er]
    have st0 := hst r mr
    have us0 := hus _ (ok.get mr).1
    have ixl : atI ((leansM cs pl).map encN) (i : Int) = some (encN (leanAt cs pl i)) := by
      refine atI_nat ?_
      unfold leansM
      rw [List.getElem?_map, List.getElem?_map, List.getElem?_range li]
      rfl
    have ll := lean_len (cs := cs) (pl := pl) i
    refine gg2 (gs_seq (gs_asg (ge_lstC (gs_nil ⟨by decide, ?_⟩))))
    refine gs_seq (gs_asgG (gd_slT (gd_dget (gd_var rfl ⟨_, rfl, gd_op (gd_var rfl (gd_int (opd_ixT (d := .str r.nm) rfl ⟨.inr r.nm, _, rfl, lk_dictC ok mr, _, rfl, go_some (gd_int ⟨1, rfl, go_some (gd_int ⟨3, rfl, ?_⟩)⟩)⟩)))⟩))))
    have ecut : cutD [PyData.str (getC cs r.nm).nm, .int (getC cs r.nm).us, .int (getC cs r.nm).lo, .tuple ((getC cs r.nm).tm.map PyData.str), .tuple ((getC cs r.nm).pl.map PyData.int), .int (getC cs r.nm).fi] (some 1) (some 3) = [.int (getC cs r.nm).us, .int (getC cs r.nm).lo] := rfl
    rw [ecut]
    refine gg2 ?_
    refine gs_seq (gs_asgD (gd_mapT encI (encLB cs pl m i) mg_name (ij_name (by simp)) (gi_rng1 (gs_cons (gd_op (gd_var rfl (gd_int (opd_addI (gs_nil ⟨_, rfl, by omega, by omega, List.range (m + 1), ?_, by rw [List.length_range]; omega, fun c0 c hc => gg_name ?_, ?_⟩)))))))))
    · rw [show ((m : Int) + 1).toNat = m + 1 by omega]
      exact rng_enc _
    · obtain ⟨rfl, lc⟩ := range_at hc
      refine gd_cb (r := rMax K) (gs_cons (gd_op (gd_lst (gs_cons (gd_op (gd_var rfl (gd_int (opd_ixT (d := .int r.st) rfl (gs_nil ⟨by show 1 ≤ 100000; decide, ?_⟩)))))))))
      refine gd_mapT encI (encLV cs pl m c) mg_name (ij_name (by simp)) (gi_tup (gd_op (gd_var rfl (gd_var rfl (opd_ixL ixl ⟨_, rfl, leanAt cs pl i, rfl, by omega, fun j a ha => gg_name ?_, ?_⟩)))))
      · have lt : a < i := leanAt_lt (List.mem_of_getElem? ha)
        refine gd_op (gd_ixCel rfl (gd_var rfl ⟨(a : Int), _, _, rfl, rfl, ix_fun lt, ?_⟩))
        refine gd_var rfl (opd_ixL (ix_int (by rw [leR_len]; exact lc)) ⟨rfl, ?_⟩)
        rw [leR_at cs pl m a (by omega)]
        rfl
      · refine opd_addL (by rw [List.length_map]; show 1 + _ ≤ 100000; omega) ?_
        have e : [PyData.int r.st] ++ (leanAt cs pl i).map (encLV cs pl m c) = (r.st :: (leanAt cs pl i).map fun p => leV cs pl m p c).map PyData.int := by
          rw [List.map_cons, List.map_map]
          rfl
        rw [e]
        refine gs_nil (opd_maxL (by simp) fun b h1 h2 => ⟨rfl, ?_⟩)
        rw [bgn_max h1 h2]
        unfold encLB
        rw [lbV_eq cs pl i (show c ≤ m by omega), est]
    · refine gs_seq (gs_for (gi_rng1 (gs_cons (gd_op (gd_var rfl (gd_int (opd_addI (gs_nil ⟨_, rfl, by omega, by omega, ?_⟩))))))))
      rw [show ((m : Int) + 1).toNat = m + 1 by omega]
      refine ⟨fun c ρ g => ∃ (y0 : SV), ρ = [.d (encCs cs), .d (encP pl), .d (.int (m : Int)), .d (dct (dictC cs)), .d (.list ((leansM cs pl).map encN)), .c 0, .d (.int (i : Int)), .d (encR r), .c 1, .d (.list ((List.range (m + 1)).map (encLB cs pl m i))), y0, .d (.int (getC cs r.nm).us), .d (.int (getC cs r.nm).lo), .no, .no] ∧ g = [some ((List.range i).map (encLR cs pl m)), some (((List.range c).map (leV cs pl m i)).map PyData.int)], ⟨y0, rfl, rfl⟩, fun c d ρ' g' hc ⟨y0, e1, e2⟩ _ => ?_, fun ρ' g' ⟨y0, e1, e2⟩ _ => ?_⟩
      · subst e1 e2
        obtain ⟨rfl, lc⟩ := rng_at hc
        refine gg_name (gs_app (ge_var rfl (fun z => nomatch z) ⟨1, _, rfl, rfl, ?_⟩))
        have fin : ∀ v : Int, v = leV cs pl m i c → ∃ ds : List D, [some ((List.range i).map (encLR cs pl m)), some (((List.range c).map (leV cs pl m i)).map PyData.int)][1]? = some (some ds) ∧ ds.length < 90000 ∧ ∃ y0 : SV, cutS 2 [SV.d (encCs cs), .d (encP pl), .d (.int (m : Int)), .d (dct (dictC cs)), .d (.list ((leansM cs pl).map encN)), .c 0, .d (.int (i : Int)), .d (encR r), .c 1, .d (.list ((List.range (m + 1)).map (encLB cs pl m i))), .d (.int (c : Int)), .d (.int (getC cs r.nm).us), .d (.int (getC cs r.nm).lo), .no, .no] = [.d (encCs cs), .d (encP pl), .d (.int (m : Int)), .d (dct (dictC cs)), .d (.list ((leansM cs pl).map encN)), .c 0, .d (.int (i : Int)), .d (encR r), .c 1, .d (.list ((List.range (m + 1)).map (encLB cs pl m i))), y0, .d (.int (getC cs r.nm).us), .d (.int (getC cs r.nm).lo), .no, .no] ∧ ([some ((List.range i).map (encLR cs pl m)), some (((List.range c).map (leV cs pl m i)).map PyData.int)].set 1 (some (ds ++ [.int v]))).take 2 = [some ((List.range i).map (encLR cs pl m)), some (((List.range (c + 1)).map (leV cs pl m i)).map PyData.int)] := fun v ev => by
          refine ⟨_, rfl, by rw [List.length_map, List.length_map, List.length_range]; omega, _, rfl, ?_⟩
          show [some _, some (((List.range c).map (leV cs pl m i)).map PyData.int ++ [PyData.int v])] = _
          rw [range_snoc, List.map_append, ev]
          rfl
        have lu := leV_us cs pl m i c
        have l0 := lb_ge cs pl (m := m) (c := c) i (by omega)
        rw [est] at l0
        rw [ecs] at lu
        refine gd_cb (r := rMax2A) (gs_cons (gd_op (gd_op (gd_var rfl (gd_var rfl (opd_ixL (ix_fun lc) (gd_var rfl (opd_addI (gs_cons ?_)))))))))
        refine gd_if (gt_test (gd_op (gd_var rfl (gd_int (opd_gt ⟨_, rfl, fun hb => ?_, fun hb => ?_⟩)))))
        · have h0 : 0 < c := by
            have := of_decide_eq_true hb
            omega
          refine gd_op (gd_op (gd_var rfl (gd_cb (r := rMax2A) (gs_cons (gd_int (gs_cons (gd_op (gd_var rfl (gd_int (opd_sub (gs_nil (opd_max2 ?_))))))))))))
          rw [show (if (c : Int) - 1 > 0 then (c : Int) - 1 else 0) = ((c - 1 : Nat) : Int) by split <;> omega]
          refine opd_ixL (ix_fun (show c - 1 < m + 1 by omega)) (gd_var rfl (opd_addI (gs_nil (opd_max2 ?_))))
          refine fin _ ?_
          rw [max_if2]
          unfold leV leM
          rw [if_pos h0, ecs]
          rfl
        · have h0 : ¬ 0 < c := by
            have := of_decide_eq_false hb
            omega
          refine gd_int (gs_nil (opd_max2 (fin _ ?_)))
          have e : leV cs pl m i c = lbV cs pl m i c + (getC cs r.nm).us := by
            unfold leV leM
            rw [if_neg h0, ecs]
            rfl
          rw [max_if2, e]
          omega
      · subst e1 e2
        rw [rngD_len]
        refine gs_app (ge_var rfl (fun z => nomatch z) ⟨0, _, rfl, rfl, gd_give (ge_var rfl (fun z => nomatch z) ⟨1, _, rfl, Nat.le_refl 1, rfl, _, rfl, ?_, ?_⟩)⟩)
        · rw [List.length_map, List.length_range]; omega
        · refine ⟨_, _, _, _, _, _, _, rfl, ?_⟩
          rw [range_snoc (encLR cs pl m) i]
          rfl
  · subst e1 e2
    rw [enum_len, List.length_map]
    refine gs_give 5 (j := 0) rfl (Nat.zero_le _) rfl ?_
    refine gs_ret (gd_cb (r := rMax K) (gs_cons (gd_op (gd_mapT (encLR cs pl m) (encLV cs pl m m) mg_name (ij_name (by simp)) (gi_list (gd_var rfl ⟨_, rfl, List.range pl.length, rfl, by rw [List.length_range]; omega, fun i k hk => gg_name ?_, ?_⟩))))))
    · refine gd_op (gd_var rfl (gd_var rfl (opd_ixL (ix_int (by rw [leR_len]; omega)) ⟨rfl, ?_⟩)))
      rw [leR_at cs pl m k (Nat.le_refl _)]
      rfl
    · refine gd_lst (gs_cons (gd_int (gs_nil ⟨by show 1 ≤ 100000; decide, opd_addL (by rw [List.length_map, List.length_range]; show _ + 1 ≤ 100000; omega) ?_⟩)))
      have e : (List.range pl.length).map (encLV cs pl m m) ++ [PyData.int 0] = (((List.range pl.length).map fun k => leV cs pl m k m) ++ [0]).map PyData.int := by
        rw [List.map_append, List.map_map]
        rfl
      rw [e]
      refine gs_nil (opd_maxL (by simp) fun b h1 h2 => ⟨_, rfl, ?_⟩)
      have eb : b = lastM cs pl m := by
        unfold lastM
        rw [lat_ends]
        refine bgn_max ?_ fun y hy => h2 y ?_
        · rcases List.mem_append.mp h1 with z | z
          · exact List.mem_cons_of_mem _ z
          · rw [List.mem_singleton] at z; rw [z]; exact List.mem_cons_self
        · rcases List.mem_cons.mp hy with z | z
          · rw [z]; exact List.mem_append_right _ (List.mem_singleton.mpr rfl)
          · exact List.mem_append_left _ z
      rw [eb]
      exact p
end
end Go
namespace Go
open PySem PySem.Spec PyProof.Rows L2 SetMix ZipE
open Evl (Ex)
local macro_rules | `(tactic| walk_at "g") => `(tactic| first
  | ((with_reducible refine gd_var (d := ?dd) ?hv ?_); (case hv => exact rfl))
  | ((with_reducible refine gd_ixScr (ns := ?ns) ?hv ?_); (case hv => exact rfl))
  | ((with_reducible refine gd_ixCel (j := ?jj) ?hv ?_); (case hv => exact rfl))
  | ((with_reducible refine gd_lenScr (ns := ?ns) ?hv ?_); (case hv => exact rfl))
  | with_reducible first
    | refine gs_seq ?_ | refine gs_next ?_ | refine gs_ret ?_ | refine gs_asgD ?_ | refine gs_if ?_
    | refine gt_test ?_ | refine gt_B ?_ | refine gt_and ?_ | refine gt_or ?_ | refine gt_not ?_ | refine gt_yes ?_
    | refine gd_int ?_ | refine gd_str ?_ | refine gd_bl ?_ | refine gd_non ?_
    | refine gd_op ?_ | refine gd_tup ?_ | refine gd_lst ?_
    | refine gd_cb (r := rLenA _) ?_ | refine gd_cb (r := rTupleA _) ?_ | refine gd_cb (r := rAbsA) ?_ | refine gd_cb (r := rMax2A) ?_ | refine gd_cb (r := rMin2A) ?_ | refine gd_cb (r := rIntA) ?_ | refine gd_cb (r := rAny _) ?_ | refine gd_cb (r := rAll _) ?_ | refine gd_cb (r := rDictP _) ?_ | refine gd_cb (r := rMax _) ?_ | refine gd_cb (r := rMin _) ?_
    | refine gs_cons ?_ | refine gs_nil ?_ | refine gd_dget ?_
    | refine gd_and ?_ | refine gd_or ?_ | refine gd_not ?_
    | refine opd_addI ?_ | refine opd_sub ?_ | refine opd_lt ?_ | refine opd_le ?_ | refine opd_gt ?_ | refine opd_ge ?_
    | refine opd_lenL ?_ | refine opd_lenT ?_ | refine opd_tupleL ?_ | refine opd_tupleT ?_ | refine opd_max2 ?_ | refine opd_min2 ?_ | refine opd_abs ?_ | refine opd_intB ?_
    | refine Exists.intro _ (And.intro rfl ?_))
/-! ### the worst day -/
def topB (cs : List Cs) (pl : List Rw) (m : Nat) (ps : List Nat) (c p : Nat) : Bool := ps.all fun q => decide (leV cs pl m q c ≤ leV cs pl m p c)
def nxtM (cs : List Cs) (pl : List Rw) (m : Nat) (ps : List Nat) (c : Nat) : Nat := (ps.find? (topB cs pl m ps c)).getD 0
theorem top_ex (f : Nat → Int) : ∀ ps : List Nat, ps ≠ [] → ∃ p ∈ ps, ∀ q ∈ ps, f q ≤ f p
  | [], h => absurd rfl h
  | [a], _ => ⟨a, List.mem_cons_self, fun q hq => by rw [List.mem_singleton] at hq; rw [hq]; exact Int.le_refl _⟩
  | a :: b :: t, _ => by
    obtain ⟨p, hp, h⟩ := top_ex f (b :: t) (fun z => nomatch z)
    by_cases e : f p ≤ f a
    · refine ⟨a, List.mem_cons_self, fun q hq => ?_⟩
      rcases List.mem_cons.mp hq with z | z
      · rw [z]; exact Int.le_refl _
      · have := h q z; omega
    · refine ⟨p, List.mem_cons_of_mem _ hp, fun q hq => ?_⟩
      rcases List.mem_cons.mp hq with z | z
      · rw [z]; omega
      · exact h q z
theorem top_iff {cs : List Cs} {pl : List Rw} {m : Nat} {ps : List Nat} {c p : Nat} : topB cs pl m ps c p = true ↔ ∀ q ∈ ps, leV cs pl m q c ≤ leV cs pl m p c := by
  unfold topB
  rw [List.all_eq_true]
  exact ⟨fun h q hq => of_decide_eq_true (h q hq), fun h q hq => decide_eq_true (h q hq)⟩
theorem nxt_is {cs : List Cs} {pl : List Rw} {m : Nat} {ps : List Nat} {c : Nat} (h : ps ≠ []) : nxtM cs pl m ps c ∈ ps ∧ ∀ q ∈ ps, leV cs pl m q c ≤ leV cs pl m (nxtM cs pl m ps c) c := by
  obtain ⟨p, hp, ht⟩ := top_ex (fun q => leV cs pl m q c) ps h
  unfold nxtM
  cases z : ps.find? (topB cs pl m ps c) with
  | none =>
    have := List.find?_eq_none.mp z p hp
    exact absurd (top_iff.mpr ht) this
  | some q => exact ⟨List.mem_of_find?_eq_some z, top_iff.mp (List.find?_some z)⟩
theorem find_first {ps : List Nat} {P : Nat → Bool} {j p : Nat} (hj : ps[j]? = some p) (hp : P p = true) (hn : ∀ i q, i < j → ps[i]? = some q → P q = false) : ps.find? P = some p := by
  induction ps generalizing j with
  | nil => simp at hj
  | cons a t ih =>
    cases j with
    | zero =>
      simp at hj
      subst hj
      exact List.find?_cons_of_pos hp
    | succ j =>
      simp at hj
      have h0 := hn 0 a (by omega) rfl
      rw [List.find?_cons_of_neg (by rw [h0]; exact Bool.false_ne_true)]
      exact ih hj fun i q hi hq => hn (i + 1) q (by omega) (by simpa using hq)
def ovB (cs : List Cs) (pl : List Rw) (m at_ l : Nat) : Bool := decide (lbV cs pl m at_ l + (csAt cs pl at_).us < leV cs pl m at_ l)
def wdF (cs : List Cs) (pl : List Rw) (m : Nat) : Nat → Nat → Nat → List Nat → List Nat
  | 0, _, _, S => S
  | n + 1, a, l, S => if lbV cs pl m a (if ovB cs pl m a l then l - 1 else l) = stAt pl a then (if ovB cs pl m a l then a :: S else S)
    else wdF cs pl m n (nxtM cs pl m (leanAt cs pl a) (if ovB cs pl m a l then l - 1 else l)) (if ovB cs pl m a l then l - 1 else l) (if ovB cs pl m a l then a :: S else S)
theorem ov_pos {cs : List Cs} {pl : List Rw} {m a l : Nat} (h : ovB cs pl m a l = true) : 0 < l ∧ leV cs pl m a l = lbV cs pl m a (l - 1) + (csAt cs pl a).lo := by
  have h1 := of_decide_eq_true h
  rcases leV_or cs pl m a l with z | z
  · omega
  · exact z
theorem lean_ne {cs : List Cs} {pl : List Rw} {m a l : Nat} (hl : l ≤ m) (h : ¬ lbV cs pl m a l = stAt pl a) : leanAt cs pl a ≠ [] := fun e => h (by rw [lbV_eq cs pl a hl, e]; rfl)
theorem nxt_lb {cs : List Cs} {pl : List Rw} {m a l : Nat} (hl : l ≤ m) (h : ¬ lbV cs pl m a l = stAt pl a) : nxtM cs pl m (leanAt cs pl a) l ∈ leanAt cs pl a ∧ lbV cs pl m a l = leV cs pl m (nxtM cs pl m (leanAt cs pl a) l) l := by
  obtain ⟨h1, h2⟩ := nxt_is (cs := cs) (pl := pl) (m := m) (c := l) (lean_ne hl h)
  refine ⟨h1, ?_⟩
  have e := lbV_eq cs pl (m := m) (c := l) a hl
  rcases List.mem_cons.mp (bgn_all ((leanAt cs pl a).map fun p => leV cs pl m p l) (stAt pl a)).2.2 with z | z
  · exact absurd (e.trans z) h
  · obtain ⟨q, hq, eq⟩ := List.mem_map.mp z
    have l1 := h2 q hq
    have l2 := bgn_ge (st := stAt pl a) (es := (leanAt cs pl a).map fun p => leV cs pl m p l) |>.2 _ (List.mem_map.mpr ⟨_, h1, rfl⟩)
    rw [← e] at l2 eq
    omega
theorem mins_set {cs : List Cs} {pl : List Rw} {S : List Nat} {a : Nat} (h : a < pl.length) : (minsM cs pl S).set a (csAt cs pl a).lo = minsM cs pl (a :: S) := by
  unfold minsM
  refine List.ext_getElem? fun i => ?_
  rw [List.getElem?_set, List.getElem?_map, List.getElem?_map, List.length_map, List.length_range]
  by_cases e : a = i
  · subst e
    rw [if_pos rfl, if_pos h, List.getElem?_range h]
    show some _ = some (minAt cs pl (a :: S) a)
    unfold minAt
    rw [if_pos List.mem_cons_self]
  · rw [if_neg e]
    by_cases hi : i < pl.length
    · rw [List.getElem?_range hi]
      show some (minAt cs pl S i) = some (minAt cs pl (a :: S) i)
      unfold minAt
      by_cases z : i ∈ S
      · rw [if_pos z, if_pos (List.mem_cons_of_mem _ z)]
      · rw [if_neg z, if_neg fun y => by
          rcases List.mem_cons.mp y with q | q
          · exact e q.symm
          · exact z q]
    · rw [List.getElem?_eq_none (by rw [List.length_range]; omega)]
      rfl
def Rplace_in : RSpec := fun ss g post => ∃ d pl nm k, ss = [.d d, .d (.str nm)] ∧ g = [] ∧ Seq d (pl.map encR) ∧ k < pl.length ∧ nmAt pl k = nm ∧ (∀ i, i < k → nmAt pl i ≠ nm) ∧ (∀ r ∈ pl, okS r.nm) ∧ okS nm ∧ post (.int (k : Nat)) []
def Rlast_to_end : RSpec := fun ss g post => ∃ cs pl, ∃ (m c : Nat) (ps : List Nat), ss = [.d (.list ((planned cs pl).map encC)), .d (.list ((lbAll cs pl m).map encL)), .d (encN ps), .d (.int (c : Nat))] ∧ g = [] ∧ ps ≠ [] ∧ ps.length ≤ 8 ∧ (∀ p ∈ ps, p < pl.length) ∧ c ≤ m ∧ post (.int (nxtM cs pl m ps c : Nat)) []
def Rworst_day : RSpec := fun ss g post => ∃ cs pl, ∃ (m k : Nat) (nm : Str), ss = [.d (encCs cs), .d (encP pl), .d (.int (m : Int)), .d (.str nm)] ∧ g = [] ∧ OkP cs pl ∧ (∀ c ∈ cs, c.tm.length ≤ 1000) ∧ m ≤ 1000 ∧ k < pl.length ∧ nmAt pl k = nm ∧ (∀ i, i < k → nmAt pl i ≠ nm) ∧ post (.tuple ((minsM cs pl (wdF cs pl m (k + 1) k m [])).map PyData.int)) []
section
variable {K : PySem.W.Frag} {wd : PySem.World} {n : Nat} {ρ ts : List SV} {g : List Cell} {κ : Ks}
theorem gs_aug {i : Nat} {te : TE} {f : Int → Int → Int} {a : Int} (hi : ρ[i]? = some (.d (.int a))) (h : GoD K n te ρ [] g fun d g1 => ∃ b, d = .int b ∧ κ.nx (ρ.set i (.d (.int (f a b)))) g1) : GoS K n (tAug i te (ipI f)) ρ g κ := by
  intro I0 H0 bs σ H E hn w m
  have w0 := w
  obtain ⟨I, ls, w1⟩ := w
  obtain ⟨o, e, r⟩ := Paired.get w1.rs hi
  cases r with
  | d ii =>
    cases is_int ii
    refine ⟨_, e, h I0 H0 bs σ [] H hn w0 _ fun v H1 s g1 ⟨I2, ls2, w2⟩ ⟨d, es, b, eb, p⟩ => ?_⟩
    subst es eb
    obtain ⟨w3, rv⟩ := w2.pop
    cases rv with
    | d iv =>
      cases is_int iv
      exact ⟨_, _, rfl, rfl, m.nx _ H1 _ g1 ⟨I2, ls2, ⟨w3.fr, w3.ce, w3.lo, Paired.set (.d (.int _)) i w3.rs, w3.rv⟩⟩ p⟩
theorem opd_index {ns : List Int} {j : Nat} {y : Int} {post : D → Prop} (hj : ns[j]? = some y) (hn : ∀ i z, i < j → ns[i]? = some z → z ≠ y) (p : post (.int (j : Nat))) : ∀ I H ws, Ex I H → IsAll K I ws [.list (ns.map PyData.int), .int y] → ∀ Q : VK, (∀ v I' H' d, Fr [] I H I' H' → Is K I' v d → post d → Q v H') → ∃ x z, ws = [x, z] ∧ tyV K "list" x H ∧ rIndex K x [z] H Q := fun I H ws ex hw Q q => by
  obtain ⟨v, w, rfl, i1, i2⟩ := all2 hw
  obtain ⟨a, xs, rfl, hs, ha⟩ := is_list i1
  cases is_int i2
  rw [ints_is ha] at hs
  refine ⟨_, _, rfl, .inl ⟨rfl, _, .inl (Evl.ex_rd ex hs)⟩, a, ns.map V.int, .int y, j, .int y, rfl, rfl, .inl (Evl.ex_rd ex hs), rfl, ?_, by rw [List.getElem?_map, hj]; rfl, by simp [eqV], fun i z' hi hz => ?_, out0 ex q (.int _) p⟩
  · rw [List.all_eq_true]
    intro x hx
    obtain ⟨i, _, rfl⟩ := List.mem_map.mp hx
    rfl
  · rw [List.getElem?_map] at hz
    cases e : ns[i]? with
    | none => rw [e] at hz; cases hz
    | some z =>
      rw [e] at hz
      cases hz
      have := hn i z hi e
      simp [eqV, this]
theorem gd_index {ta tb : TE} {post : D → List Cell → Prop} (h : GoD K n ta ρ ts g fun d1 g1 => ∃ ns : List Int, d1 = .list (ns.map PyData.int) ∧ GoD K n tb ρ (.d d1 :: ts) g1 fun d2 g2 => ∃ (y : Int) (j : Nat), d2 = .int y ∧ ns[j]? = some y ∧ (∀ i z, i < j → ns[i]? = some z → z ≠ y) ∧ post (.int (j : Nat)) g2) : GoD K n (tBM K "list" (rIndex K) ta (tCons tb tNil)) ρ ts g post := by
  intro I0 H0 bs σ vs H hn w Q q
  refine h I0 H0 bs σ vs H hn w _ fun v H1 s g1 ⟨I, ls, w1⟩ ⟨d1, e1, ns, e2, p1⟩ => ?_
  subst e1 e2
  have w1' := w1
  obtain ⟨w2, r⟩ := w1.pop
  cases r with
  | d i1 =>
    have i1' := i1
    obtain ⟨a, xs, rfl, hs, ha⟩ := is_list i1
    refine ⟨.inl ⟨rfl, xs, .inl (Evl.ex_rd w2.fr.ih hs)⟩, p1 I0 H0 bs σ _ H1 hn ⟨I, ls, w1'⟩ _ fun y H2 s2 g2 ⟨I2, ls2, w3⟩ ⟨d2, e3, yy, j, e4, hj, hnn, pp⟩ => ?_⟩
    subst e3 e4
    obtain ⟨w4, r4⟩ := w3.pop
    obtain ⟨w5, r5⟩ := w4.pop
    cases r4 with
    | d i4 =>
      cases r5 with
      | d i5 =>
        obtain ⟨x, z, e, _, hr⟩ := opd_index (K := K) (post := fun d => post d g2) hj hnn pp I2 H2 [.ref a, y] w5.fr.ih (.cons i5 (.cons i4 .nil)) Q fun v I' H' d f i p => q v H' (.d d) g2 ⟨I', ls2, (w5.step f).push (.d i)⟩ ⟨d, rfl, p⟩
        cases e
        exact hr
theorem sh_str {x : Str} (h : okS x) : SeqAt.shaped (.str x) = true := by
  unfold SeqAt.shaped
  rw [Bool.and_eq_true]
  exact ⟨h, by simp [PyData.depth]⟩
/-- a comprehension whose list is the def's own, to be written -/
theorem ge_lcC {wi : TI} {gt : TG} {tt : TT} {te : TE} {js : List Nat} {post : PostE} (hm : MonG gt) (hj : InJs js gt)
    (h : GoI K n wi ρ ts g fun items g1 => items.length ≤ 50000 ∧ ∃ Iv : Nat → List D → List Cell → Prop, Iv 0 [] g1 ∧
      (∀ i d acc g2, items[i]? = some d → Iv i acc g2 → GoG K g2.length gt d (wipeS ρ js) ts g2 fun ρ' => GoT K g2.length tt ρ' ts g2 fun b g3 =>
        (b = true → GoD K g2.length te ρ' ts g3 fun e g4 => g4.length = g2.length ∧ Iv (i + 1) (acc ++ [e]) g4) ∧ (b = false → g3.length = g2.length ∧ Iv (i + 1) acc g3)) ∧
      (∀ acc g2, Iv items.length acc g2 → post (.c g2.length) (g2 ++ [some acc]))) : GoE K n (tLc wi gt tt te js) ρ ts g post := by
  intro I0 H0 bs σ vs H hn w Q q
  refine h I0 H0 bs σ vs H hn w _ fun J H1 g1 items I1 ls w1 wk ⟨hz, Iv, iv0, step, fin⟩ Dl hD => ?_
  have h0 : H0 Dl = none := by
    cases z : H0 Dl with
    | none => rfl
    | some o => exact absurd hD (w1.fr.dm Dl (by rw [z]; exact fun y => nomatch y))
  have nD : Dl ∉ bs ++ ls := fun m => w1.ce.in_ Dl m hD
  have i1D : I1 Dl = none := Evl.fresh_back w1.fr.ih hD
  refine ⟨fun i m H => ∃ I acc accV g, i + m = items.length ∧ Wd K I0 H0 bs ls ρ ts g σ vs I H ∧ Ex I1 I ∧ I Dl = none ∧ H Dl = some (.lst accV) ∧ IsAll K I accV acc ∧ acc.length ≤ i ∧ Iv i acc g, ⟨items.length, I1, [], [], g1, by omega, ?_, Ex.refl I1, i1D, upd_same, .nil, Nat.le_refl _, iv0⟩, fun i m H2 hW => ?_⟩
  · have hx : ∀ b o, H1 b = some o → upd H1 Dl (.lst []) b = some o := fun b o e => by rw [upd_ne (ne_of_none e hD)]; exact e
    refine ⟨⟨w1.fr.ii, fun b o e => hx b o (w1.fr.ih b o e), fun b o m e => hx b o (w1.fr.fr b o m e), fun b e => ?_, w1.fr.nw⟩, w1.ce.keep (Ex.refl I1) (fun b _ o e => hx b o e) (fun _ _ e => e), w1.lo, w1.rs, w1.rv⟩
    cases z : H1 b with
    | none => exact absurd z (w1.fr.dm b e)
    | some o => rw [hx b o z]; exact fun y => nomatch y
  · obtain ⟨I, acc, accV, g2, em, wd, exI, iD, hDl, ia, hacc, iv⟩ := hW
    by_cases hi : i < items.length
    · refine .inr ⟨wk.go i I H2 exI wd.fr.ih hi, fun H' => ∃ I acc accV g, Wd K I0 H0 bs ls ρ ts g σ vs I H' ∧ Ex I1 I ∧ I Dl = none ∧ H' Dl = some (.lst accV) ∧ IsAll K I accV acc ∧ acc.length ≤ i + 1 ∧ Iv (i + 1) acc g, fun H' ⟨I', acc', accV', g', a, b, c, d, e, f, k⟩ => ⟨m - 1, by omega, I', acc', accV', g', by omega, a, b, c, d, e, f, k⟩, fun x H3 hy => ?_⟩
      have hdi : items[i]? = some items[i] := List.getElem?_eq_getElem hi
      obtain ⟨I3, f3, ix⟩ := wk.yld i _ I H2 x H3 exI wd.fr.ih hdi hy
      have wd3 := (wd.step f3)
      have hD3 : H3 Dl = some (.lst accV) := f3.fr Dl _ (fun z => nomatch z) hDl
      have iD3 : I3 Dl = none := f3.nw Dl (by rw [hDl]; exact fun y => nomatch y) iD
      have len2 : (bs ++ ls).length = g2.length := wd3.ce.len
      -- the block's own world
      have wB : World K I3 H3 (bs ++ ls) (wipeS ρ js) (.d items[i] :: ts) g2 (wipe σ js) (x :: vs) H3 := by
        refine ⟨I3, [], Wd.mk (Fr.refl wd3.fr.ih) ?_ (fun _ z => nomatch z) ?_ ?_⟩
        · rw [List.append_nil]; exact wd3.ce
        · rw [List.append_nil]; exact rels_wipes wd3.rs js
        · rw [List.append_nil]; exact .cons (.d ix) wd3.rv
      -- what the block leaves, seen from outside
      have back : ∀ ρ' σ' H' g' ts' vs', World K I3 H3 (bs ++ ls) ρ' ts' g' σ' vs' H' → g'.length = g2.length → ∃ I', Wd K I0 H0 bs ls ρ ts g' σ vs I' H' ∧ Ex I3 I' ∧ I' Dl = none ∧ H' Dl = some (.lst accV) ∧ Rels K I' (bs ++ ls) (vs'.map some) ts' := by
        intro ρ' σ' H' g' ts' vs' ⟨I', ls', w'⟩ hl
        have : ls' = [] := by
          have e := w'.ce.len
          rw [List.length_append, hl, len2] at e
          exact List.length_eq_zero_iff.mp (by omega)
        subst this
        have ce := w'.ce
        have rv := w'.rv
        rw [List.append_nil] at ce rv
        exact ⟨I', ⟨wd3.fr.deep wd3.lo w'.fr, ce, wd3.lo, wd3.rs.mono w'.fr.ii, wd3.rv.mono w'.fr.ii⟩, w'.fr.ii, w'.fr.nw Dl (by rw [hD3]; exact fun y => nomatch y) iD3, w'.fr.fr Dl _ nD hD3, rv⟩
      have st := step i _ acc g2 hdi iv
      have gG := st I3 H3 (bs ++ ls) (wipe σ js) vs x H3 len2 wB (fun σ2 H4 => tt σ2 H4 fun b H5 => if b = true then te σ2 H5 fun y H6 => ∃ acc, H6 Dl = some (.lst acc) ∧ acc.length < sizeLine ∧ (∃ I acc2 accV g, Wd K I0 H0 bs ls ρ ts g σ vs I (upd H6 Dl (.lst (acc ++ [y]))) ∧ Ex I1 I ∧ I Dl = none ∧ (upd H6 Dl (.lst (acc ++ [y]))) Dl = some (.lst accV) ∧ IsAll K I accV acc2 ∧ acc2.length ≤ i + 1 ∧ Iv (i + 1) acc2 g) else (∃ I acc accV g, Wd K I0 H0 bs ls ρ ts g σ vs I H5 ∧ Ex I1 I ∧ I Dl = none ∧ H5 Dl = some (.lst accV) ∧ IsAll K I accV acc ∧ acc.length ≤ i + 1 ∧ Iv (i + 1) acc g)) fun σ2 ρ2 H4 w4 gT => ?_
      · refine hm x _ H3 _ _ (fun σ2 H4 q4 => ?_) (hj x _ H3 _ gG)
        obtain ⟨q4, e4⟩ := q4
        rw [wipe_wipe] at e4
        exact ⟨e4, q4⟩
      · refine gT I3 H3 (bs ++ ls) σ2 vs H4 len2 w4 _ fun b H5 g5 w5 ⟨pt, pf⟩ => ?_
        cases b with
        | true =>
          rw [if_pos rfl]
          refine pt rfl I3 H3 (bs ++ ls) σ2 vs H5 len2 w5 _ fun y H6 s g6 w6 ⟨e, es, hl6, iv6⟩ => ?_
          subst es
          obtain ⟨I6, wd6, ex6, i6D, h6D, rv6⟩ := back _ _ _ _ _ _ w6 hl6
          cases rv6 with
          | cons ry _ =>
            cases ry with
            | d iy =>
              have exx : Ex I1 I6 := (exI.trans f3.ii).trans ex6
              refine ⟨accV, h6D, by rw [ia.length]; exact Evl.sz_lt (by omega), I6, acc ++ [e], accV ++ [y], g6, ?_, exx, i6D, upd_same, ((ia.mono f3.ii).mono ex6).append (.one iy), by rw [List.length_append]; show acc.length + 1 ≤ i + 1; omega, iv6⟩
              have hx : ∀ b o, b ≠ Dl → H6 b = some o → upd H6 Dl (.lst (accV ++ [y])) b = some o := fun b o nb e => by rw [upd_ne nb]; exact e
              refine ⟨⟨wd6.fr.ii, fun b o e => hx b o (fun z => by rw [z, i6D] at e; cases e) (wd6.fr.ih b o e), fun b o m e => hx b o (fun z => by rw [z, h0] at e; cases e) (wd6.fr.fr b o m e), fun b e => ?_, wd6.fr.nw⟩, wd6.ce.keep (Ex.refl I6) (fun b m o e => hx b o (ne_mem m nD) e) (fun _ _ e => e), wd6.lo, wd6.rs, wd6.rv⟩
              cases z : H6 b with
              | none => exact absurd z (wd6.fr.dm b e)
              | some o => rw [hx b o (fun y : b = Dl => e (by rw [y]; exact h0)) z]; exact fun y => nomatch y
        | false =>
          rw [if_neg Bool.false_ne_true]
          obtain ⟨hl5, iv5⟩ := pf rfl
          obtain ⟨I6, wd6, ex6, i6D, h6D, _⟩ := back _ _ _ _ _ _ w5 hl5
          exact ⟨I6, acc, accV, g5, wd6, (exI.trans f3.ii).trans ex6, i6D, h6D, (ia.mono f3.ii).mono ex6, by omega, iv5⟩
    · have e : i = items.length := by omega
      subst e
      refine .inl ⟨wk.stop I H2 exI wd.fr.ih, ?_⟩
      have hj2 : (bs ++ (ls ++ [Dl]))[g2.length]? = some Dl := by
        rw [← List.append_assoc, ← wd.ce.len, List.getElem?_append_right (Nat.le_refl _), Nat.sub_self]
        rfl
      have up : ∀ (j : Nat) p, (bs ++ ls)[j]? = some p → (bs ++ (ls ++ [Dl]))[j]? = some p := fun j p e => by
        rw [← List.append_assoc, List.getElem?_append_left (List.getElem?_eq_some_iff.mp e).1]
        exact e
      refine q (.ref Dl) H2 (.c g2.length) _ ⟨I, ls ++ [Dl], ⟨wd.fr, ?_, fun b m => ?_, Paired.imp (fun _ _ r => r.mono (Ex.refl I) up) wd.rs, .cons (.c hj2) (Paired.imp (fun _ _ r => r.mono (Ex.refl I) up) wd.rv)⟩⟩ (fin acc g2 iv)
      · rw [← List.append_assoc]
        exact Cells.snoc iD hDl ia nD wd.ce
      · rcases List.mem_append.mp m with m | m
        · exact wd.lo b m
        · rw [List.mem_singleton] at m
          rw [m]; exact h0
theorem ge_mapC {α : Type} {wi : TI} {gt : TG} {te : TE} {js : List Nat} {post : PostE} (enc res : α → D) (hm : MonG gt) (hj : InJs js gt)
    (h : GoI K n wi ρ ts g fun items g1 => ∃ xs : List α, items = xs.map enc ∧ xs.length ≤ 50000 ∧ (∀ (i : Nat) (a : α), xs[i]? = some a → GoG K g1.length gt (enc a) (wipeS ρ js) ts g1 fun ρ' => GoD K g1.length te ρ' ts g1 fun e g2 => g2 = g1 ∧ e = res a) ∧ post (.c g1.length) (g1 ++ [some (xs.map res)])) : GoE K n (tLc wi gt tYes te js) ρ ts g post := by
  refine ge_lcC hm hj fun I0 H0 bs σ vs H hn w R q => h I0 H0 bs σ vs H hn w R fun J H1 g1 items I ls w1 wk ⟨xs, ei, hz, st, p⟩ => q J H1 g1 items I ls w1 wk ⟨by rw [ei, List.length_map]; exact hz, fun i acc g => g = g1 ∧ acc = (xs.take i).map res, ⟨rfl, rfl⟩, fun i d acc g2 hi ⟨e1, e2⟩ => ?_, fun acc g2 ⟨e1, e2⟩ => ?_⟩
  · subst e1 e2
    rw [ei] at hi
    obtain ⟨a, ha, rfl⟩ := at_map hi
    refine fun I0 H0 bs σ vs v H hn w Q q => st i a ha I0 H0 bs σ vs v H hn w Q fun σ' ρ' H' w' gd => q σ' ρ' H' w' (gt_yes ⟨fun _ => GoD.imp gd fun e g3 ⟨x, b⟩ => ⟨by rw [x], x, ?_⟩, fun z => nomatch z⟩)
    rw [List.take_add_one, ha, List.map_append, b]
    rfl
  · subst e1 e2
    rw [ei, List.length_map, List.take_length]
    exact p
def tplace_in (K : PySem.W.Frag) (wd : PySem.World) : TS := (tSeq (tFor (iEnum1 K (tCons (tVar 0) tNil)) (gTup K 2 (gCons (gName 2) (gCons (gName 3) gNil))) (tIfS (tTest (tOp (rEqD K) (tOp (rIx K) (tVar 3) (tC (.int 1))) (tVar 1))) (tRet (tVar 2)) tNext)) Go.tNever)
theorem eqv_str (x y : Str) : PyData.eqv (.str x) (.str y) = decide (x = y) := by
  by_cases h : x = y
  · subst h; simp [PyData.eqv]
  · simp [PyData.eqv, h]
theorem go_place_in (ss : List SV) (g : List Cell) (post : D → List Cell → Prop) (h : Rplace_in ss g post) : GoS K g.length (tplace_in K wd) (ss ++ List.replicate (4 - ss.length) .no) g (KF g.length post) := by
  obtain ⟨d, pl, nm, k, rfl, rfl, hd, hk, hn, hm, okn, okx, p⟩ := h
  unfold tplace_in
  refine gs_seq (gs_for (gi_enum (gs_cons (gd_var rfl (gs_nil ⟨_, _, rfl, hd, ?_⟩)))))
  refine ⟨fun i ρ g => ∃ (x2 x3 : SV), ρ = [.d d, .d (.str nm), x2, x3] ∧ g = [] ∧ i ≤ k, ⟨.no, .no, rfl, rfl, Nat.zero_le _⟩, fun i d' ρ' g' hi ⟨x2, x3, e1, e2, le⟩ _ => ?_, fun ρ' g' ⟨x2, x3, e1, e2, le⟩ _ => ?_⟩
  · subst e1 e2
    obtain ⟨e, he, rfl⟩ := enum_get hi
    obtain ⟨r, hr, rfl⟩ := at_map he
    have er : nmAt pl i = r.nm := by unfold nmAt; rw [List.getD_eq_getElem?_getD, hr]; rfl
    refine gg2 (gs_if (gt_test (gd_op (gd_op (gd_var rfl (gd_int (opd_ixT (d := .str r.nm) rfl (gd_var rfl (opd_eq (sh_str (okn r (List.mem_of_getElem? hr))) (sh_str okx) ?_)))))))))
    rw [eqv_str]
    refine ⟨_, rfl, fun hb => ?_, fun hb => gs_next ⟨_, _, rfl, rfl, ?_⟩⟩
    · have e : r.nm = nm := of_decide_eq_true hb
      have : i = k := by
        refine Nat.le_antisymm le (Nat.not_lt.mp fun z => hm i z (er.trans e))
      subst this
      exact gs_ret (gd_var rfl ⟨_, rfl, ⟨_, rfl, p⟩⟩)
    · have e : ¬ r.nm = nm := of_decide_eq_false hb
      have : i ≠ k := fun z => by
        subst z
        exact e (er.symm.trans hn)
      omega
  · exfalso
    rw [enum_len, List.length_map] at le
    omega
def tlast_to_end (K : PySem.W.Frag) (wd : PySem.World) : TS := (tSeq (tAsg (tLc (iTup K (tVar 2)) (gName 5) tYes (tCall (spOf K Rlatest_end) [] E0 (tCons (tOp (rIx K) (tVar 0) (tVar 5)) (tCons (tOp (rIx K) (tVar 1) (tVar 5)) (tCons (tVar 3) tNil)))) [5]) (gName 4)) (tRet (tOp (rIx K) (tVar 2) (tBM K "list" (rIndex K) (tVar 4) (tCons (tCB (rMax K) (tCons (tVar 4) tNil)) tNil)))))
theorem lbAll_at {cs : List Cs} {pl : List Rw} {m p : Nat} (h : p < pl.length) : atI ((lbAll cs pl m).map encL) (p : Int) = some (encL (rwM cs pl m p)) := by
  refine atI_nat ?_
  rw [lbAll_eq, List.getElem?_map, List.getElem?_map, List.getElem?_range h]
  rfl
theorem go_last_to_end (ss : List SV) (g : List Cell) (post : D → List Cell → Prop) (h : Rlast_to_end ss g post) : GoS K g.length (tlast_to_end K wd) (ss ++ List.replicate (6 - ss.length) .no) g (KF g.length post) := by
  obtain ⟨cs, pl, m, c, ps, rfl, rfl, h0, h8, hp, hc, p⟩ := h
  unfold tlast_to_end
  refine gs_seq (gs_asgD (gd_mapT encI (encLV cs pl m c) mg_name (ij_name (by simp)) (gi_tup (gd_var rfl ⟨_, rfl, ps, rfl, by omega, fun j a ha => gg_name (gd_call ?_), ?_⟩))))
  · have la := hp a (List.mem_of_getElem? ha)
    refine gs_cons (gd_op (gd_var rfl (gd_var rfl (opd_ixL (ix_planned la) (gs_cons (gd_op (gd_var rfl (gd_var rfl (opd_ixL (lbAll_at la) (gs_cons (gd_var rfl (gs_nil ?_))))))))))))
    exact ⟨csAt cs pl a, _, rwM cs pl m a, c, rfl, rfl, .inl rfl, by rw [rw_len]; omega, rfl, rfl⟩
  have ee : ps.map (encLV cs pl m c) = (ps.map fun p => leV cs pl m p c).map PyData.int := by
    rw [List.map_map]
    rfl
  rw [ee]
  obtain ⟨n1, n2⟩ := nxt_is (cs := cs) (pl := pl) (m := m) (c := c) h0
  refine gs_ret (gd_op (gd_var rfl (gd_index (gd_var rfl ⟨_, rfl, gd_cb (r := rMax K) (gs_cons (gd_var rfl (gs_nil (opd_maxL (by rw [List.length_map]; exact List.length_pos_iff.mpr h0) fun y hy1 hy2 => ?_))))⟩))))
  -- the first place with the greatest end
  have top : ∀ q ∈ ps, leV cs pl m q c ≤ y := fun q hq => hy2 _ (List.mem_map.mpr ⟨q, hq, rfl⟩)
  have isT : ∀ q ∈ ps, (topB cs pl m ps c q = true ↔ leV cs pl m q c = y) := fun q hq => by
    obtain ⟨t, ht, et⟩ := List.mem_map.mp hy1
    rw [top_iff]
    constructor
    · intro h1
      have a1 := h1 t ht
      have a2 := top q hq
      omega
    · intro h1 r hr
      have := top r hr
      omega
  cases z : ps.find? (topB cs pl m ps c) with
  | none =>
    obtain ⟨t, ht, et⟩ := List.mem_map.mp hy1
    exact absurd ((isT t ht).mpr et) (List.find?_eq_none.mp z t ht)
  | some q =>
    have eq : nxtM cs pl m ps c = q := by unfold nxtM; rw [z]; rfl
    obtain ⟨hq, as, bs2, e3, hb⟩ := List.find?_eq_some_iff_append.mp z
    have mq := List.mem_of_find?_eq_some z
    have hj : (ps.map fun p => leV cs pl m p c)[as.length]? = some y := by
      rw [List.getElem?_map, e3, List.getElem?_append_right (Nat.le_refl _), Nat.sub_self]
      show some (leV cs pl m q c) = some y
      rw [(isT q mq).mp hq]
    refine ⟨y, as.length, rfl, hj, fun i v hi hv => ?_, ?_⟩
    · rw [List.getElem?_map, e3, List.getElem?_append_left hi, List.getElem?_eq_getElem hi] at hv
      have hv2 : leV cs pl m as[i] c = v := Option.some.inj hv
      have ma : as[i] ∈ as := List.getElem_mem hi
      have mps : as[i] ∈ ps := by rw [e3]; exact List.mem_append_left _ ma
      have hf := hb _ ma
      intro ev
      rw [ev] at hv2
      rw [(isT _ mps).mpr hv2] at hf
      cases hf
    · refine opd_ixT (d := encI q) ?_ ⟨_, rfl, by rw [eq] at p; exact p⟩
      refine atI_nat ?_
      rw [List.getElem?_map, e3, List.getElem?_append_right (Nat.le_refl _), Nat.sub_self]
      rfl
def tworst_day (K : PySem.W.Frag) (wd : PySem.World) : TS := (tSeq (tAsg (tCall (spOf K Rin_order) [] E0 (tCons (tVar 0) (tCons (tVar 1) tNil))) (gName 4)) (tSeq (tAsg (tCall (spOf K Rlatest_begins) [] E0 (tCons (tVar 0) (tCons (tVar 1) (tCons (tVar 2) tNil)))) (gName 5)) (tSeq (tAsg (tCall (spOf K Rleans) [] E0 (tCons (tVar 0) (tCons (tVar 1) tNil))) (gName 6)) (tSeq (tAsg (tLc (iList K (tVar 4)) (gName 10) tYes (tOp (rIx K) (tVar 10) (tC (.int 1))) [10]) (gName 7)) (tSeq (tAsg (tCall (spOf K Rmost_over) [] E0 (tCons (tVar 2) tNil)) (gName 8)) (tSeq (tAsg (tCall (spOf K Rplace_in) [] E0 (tCons (tVar 1) (tCons (tVar 3) tNil))) (gName 9)) (tSeq (tWhile (tTest (tOp rNotN0 (tVar 9) (tC .non))) (tSeq (tIfS (tTest (tOp (rI0 fun i j => V.bl (decide (i < j))) (tOp (rAddA K) (tOp (rIx K) (tOp (rIx K) (tVar 5) (tVar 9)) (tVar 8)) (tOp (rIx K) (tOp (rIx K) (tVar 4) (tVar 9)) (tC (.int 1)))) (tCall (spOf K Rlatest_end) [] E0 (tCons (tOp (rIx K) (tVar 4) (tVar 9)) (tCons (tOp (rIx K) (tVar 5) (tVar 9)) (tCons (tVar 8) tNil)))))) (tSeq (tAsg (tOp (rIx K) (tOp (rIx K) (tVar 4) (tVar 9)) (tC (.int 2))) (gSub (tVar 7) (tVar 9) rSetL)) (tAug 8 (tC (.int 1)) (ipI fun i j => i - j))) tNext) (tIfS (tTest (tOp (rEqD K) (tOp (rIx K) (tOp (rIx K) (tVar 5) (tVar 9)) (tVar 8)) (tOp (rIx K) (tOp (rIx K) (tVar 1) (tVar 9)) (tC (.int 0))))) (tAsg (tC .non) (gName 9)) (tAsg (tCall (spOf K Rlast_to_end) [] E0 (tCons (tVar 4) (tCons (tVar 5) (tCons (tOp (rIx K) (tVar 6) (tVar 9)) (tCons (tVar 8) tNil))))) (gName 9))))) (tRet (tCB (rTupleA K) (tCons (tVar 7) tNil))))))))))
theorem mins_len (cs : List Cs) (pl : List Rw) (S : List Nat) : (minsM cs pl S).length = pl.length := by unfold minsM; rw [List.length_map, List.length_range]
theorem mins_us (cs : List Cs) (pl : List Rw) : (planned cs pl).map encU = (minsM cs pl []).map PyData.int := by
  unfold planned minsM
  rw [List.map_map, map_range _ pl, List.map_map]
  rfl
theorem ixn_lt {n a : Nat} (h : a < n) : ixN n (a : Int) = some a := by
  unfold ixN
  rw [if_pos (by omega)]
  simp [h]
theorem go_worst_day (ss : List SV) (g : List Cell) (post : D → List Cell → Prop) (h : Rworst_day ss g post) : GoS K g.length (tworst_day K wd) (ss ++ List.replicate (11 - ss.length) .no) g (KF g.length post) := by
  obtain ⟨cs, pl, m, k, nm, rfl, rfl, ok, okl, hm, hk, hn, hf, p⟩ := h
  unfold tworst_day
  have l8 := ok.lp
  have okr : ∀ r ∈ pl, okS r.nm := fun r hr => by
    obtain ⟨c, hc, e⟩ := ok.mem r hr
    rw [← e]
    exact ok.okn c hc
  refine gs_seq (gs_asgD (gd_call (gs_cons (gd_var rfl (gs_cons (gd_var rfl (gs_nil ⟨cs, pl, rfl, rfl, ok, ?_⟩)))))))
  refine gs_seq (gs_asgD (gd_call (gs_cons (gd_var rfl (gs_cons (gd_var rfl (gs_cons (gd_var rfl (gs_nil ⟨cs, pl, m, rfl, rfl, ok, okl, hm, ?_⟩)))))))))
  refine gs_seq (gs_asgD (gd_call (gs_cons (gd_var rfl (gs_cons (gd_var rfl (gs_nil ⟨cs, pl, rfl, rfl, ok, okl, ?_⟩)))))))
  refine gs_seq (gs_asg (ge_mapC encC encU mg_name (ij_name (by simp)) (gi_list (gd_var rfl ⟨_, rfl, planned cs pl, rfl, by unfold planned; rw [List.length_map]; omega, fun i c hc => gg_name (gd_op (gd_var rfl (gd_int (opd_ixT (d := .int c.us) rfl ⟨rfl, rfl⟩)))), ?_⟩))))
  rw [mins_us]
  refine gs_seq (gs_asgD (gd_call (gs_cons (gd_var rfl (gs_nil ⟨m, rfl, rfl, ?_⟩)))))
  refine gs_seq (gs_asgD (gd_call (gs_cons (gd_var rfl (gs_cons (gd_var rfl (gs_nil ⟨_, pl, nm, k, rfl, rfl, .inr rfl, hk, hn, hf, okr, ?_, ?_⟩)))))))
  · have := okr _ (getD_mem hk)
    unfold nmAt at hn
    rw [hn] at this
    exact this
  generalize hF : wdF cs pl m (k + 1) k m [] = F at p
  refine gs_seq (gs_while (fun q ρ g => ∃ (S : List Nat) (l : Nat) (at_ : D), ρ = [.d (encCs cs), .d (encP pl), .d (.int (m : Int)), .d (.str nm), .d (.list ((planned cs pl).map encC)), .d (.list ((lbAll cs pl m).map encL)), .d (.list ((leansM cs pl).map encN)), .c 0, .d (.int (l : Int)), .d at_, .no] ∧ g = [some ((minsM cs pl S).map PyData.int)] ∧ l ≤ m ∧ ((at_ = .none ∧ q = 0 ∧ S = F) ∨ ∃ a n : Nat, at_ = .int (a : Int) ∧ q = a + 1 ∧ a < pl.length ∧ a < n ∧ wdF cs pl m n a l S = F)) (k + 1) ⟨[], m, _, rfl, rfl, Nat.le_refl _, .inr ⟨k, k + 1, rfl, rfl, hk, by omega, hF⟩⟩ fun q ρ' g' ⟨S, l, at_, e1, e2, hl, hw⟩ => ?_)
  subst e1 e2
  rcases hw with ⟨rfl, rfl, rfl⟩ | ⟨a, n, rfl, rfl, la, lan, hwd⟩
  · refine gt_test (gd_op (gd_var rfl (gd_non (opd_notN ⟨_, rfl, fun z => (nomatch z), fun _ => ?_⟩))))
    refine gs_ret (gd_cb (r := rTupleA K) (gs_cons (gd_give (ge_var rfl (fun z => nomatch z) ⟨0, _, rfl, Nat.zero_le _, rfl, gs_nil (opd_tupleL ⟨_, rfl, p⟩)⟩))))
  refine gt_test (gd_op (gd_var rfl (gd_non (opd_notN ⟨_, rfl, fun _ => ?_, fun z => nomatch z⟩))))
  cases n with
  | zero => omega
  | succ n =>
    have ixb := lbAll_at (cs := cs) (m := m) la
    have ixp := ix_planned (cs := cs) la
    have ixbl : ∀ c, c ≤ m → atI ((rwM cs pl m a).map PyData.int) (c : Int) = some (.int (lbV cs pl m a c)) := fun c hc => ix_int (by rw [rw_len]; omega)
    have ixr : atI (pl.map encR) (a : Int) = some (encR (pl.getD a default)) := ix_map encR la
    have ixl : atI ((leansM cs pl).map encN) (a : Int) = some (encN (leanAt cs pl a)) := by
      refine atI_nat ?_
      unfold leansM
      rw [List.getElem?_map, List.getElem?_map, List.getElem?_range la]
      rfl
    -- the second half of a turn
    have half : ∀ (S1 : List Nat) (l1 : Nat), l1 ≤ m → (if lbV cs pl m a l1 = stAt pl a then S1 else wdF cs pl m n (nxtM cs pl m (leanAt cs pl a) l1) l1 S1) = F → ∀ {κ : Ks}, (∀ (at_ : D), ((at_ = .none ∧ S1 = F) ∨ ∃ a' n' : Nat, at_ = .int (a' : Int) ∧ a' < a ∧ a' < n' ∧ wdF cs pl m n' a' l1 S1 = F) → κ.nx [.d (encCs cs), .d (encP pl), .d (.int (m : Int)), .d (.str nm), .d (.list ((planned cs pl).map encC)), .d (.list ((lbAll cs pl m).map encL)), .d (.list ((leansM cs pl).map encN)), .c 0, .d (.int (l1 : Int)), .d at_, .no] [some ((minsM cs pl S1).map PyData.int)]) →
        GoS K 0 (tIfS (tTest (tOp (rEqD K) (tOp (rIx K) (tOp (rIx K) (tVar 5) (tVar 9)) (tVar 8)) (tOp (rIx K) (tOp (rIx K) (tVar 1) (tVar 9)) (tC (.int 0))))) (tAsg (tC .non) (gName 9)) (tAsg (tCall (spOf K Rlast_to_end) [] E0 (tCons (tVar 4) (tCons (tVar 5) (tCons (tOp (rIx K) (tVar 6) (tVar 9)) (tCons (tVar 8) tNil))))) (gName 9))) [.d (encCs cs), .d (encP pl), .d (.int (m : Int)), .d (.str nm), .d (.list ((planned cs pl).map encC)), .d (.list ((lbAll cs pl m).map encL)), .d (.list ((leansM cs pl).map encN)), .c 0, .d (.int (l1 : Int)), .d (.int (a : Int)), .no] [some ((minsM cs pl S1).map PyData.int)] κ := fun S1 l1 hl1 hF1 κ pp => by
      refine gs_if (gt_test (gd_op (gd_op (gd_op (gd_var rfl (gd_var rfl (opd_ixL ixb (gd_var rfl (opd_ixL (ixbl l1 hl1) ?_)))))))))
      refine gd_op (gd_op (gd_var rfl (gd_var rfl (opd_ixT ixr (gd_int (opd_ixT (d := .int (stAt pl a)) rfl (opd_eq rfl rfl ?_)))))))
      refine ⟨_, rfl, fun hb => ?_, fun hb => ?_⟩
      · have e : lbV cs pl m a l1 = stAt pl a := eq_of_beq (show (lbV cs pl m a l1 == stAt pl a) = true from hb)
        rw [if_pos e] at hF1
        exact gs_asgD (gd_non (pp _ (.inl ⟨rfl, hF1⟩)))
      · have e : ¬ lbV cs pl m a l1 = stAt pl a := fun z => by
          have : (lbV cs pl m a l1 == stAt pl a) = false := hb
          rw [z] at this
          simp at this
        rw [if_neg e] at hF1
        obtain ⟨x1, x2⟩ := nxt_lb hl1 e
        have lt := leanAt_lt x1
        have ll := lean_len (cs := cs) (pl := pl) a
        refine gs_asgD (gd_call (gs_cons (gd_var rfl (gs_cons (gd_var rfl (gs_cons (gd_op (gd_var rfl (gd_var rfl (opd_ixL ixl (gs_cons (gd_var rfl (gs_nil ⟨cs, pl, m, l1, leanAt cs pl a, rfl, rfl, lean_ne hl1 e, by omega, fun q hq => by have := leanAt_lt hq; omega, hl1, pp _ (.inr ⟨_, n, rfl, lt, by omega, hF1⟩)⟩)))))))))))))
    refine gs_seq (gs_if (gt_test (gd_op (gd_op (gd_op (gd_op (gd_var rfl (gd_var rfl (opd_ixL ixb (gd_var rfl (opd_ixL (ixbl l hl) ?_)))))))))))
    refine gd_op (gd_op (gd_var rfl (gd_var rfl (opd_ixL ixp (gd_int (opd_ixT (d := .int (csAt cs pl a).us) rfl (opd_addI ?_)))))))
    refine gd_call (gs_cons (gd_op (gd_var rfl (gd_var rfl (opd_ixL ixp (gs_cons (gd_op (gd_var rfl (gd_var rfl (opd_ixL ixb (gs_cons (gd_var rfl (gs_nil ⟨csAt cs pl a, _, rwM cs pl m a, l, rfl, rfl, .inl rfl, by rw [rw_len]; omega, opd_lt ⟨_, rfl, fun hb => ?_, fun hb => gs_next ?_⟩⟩)))))))))))))
    · have ov : ovB cs pl m a l = true := hb
      obtain ⟨l0, _⟩ := ov_pos ov
      refine gs_seq (gs_set (gd_op (gd_op (gd_var rfl (gd_var rfl (opd_ixL ixp (gd_int (opd_ixT (d := .int (csAt cs pl a).lo) rfl (ge_var rfl (fun z => nomatch z) ⟨0, rfl, gd_var rfl ⟨(a : Int), _, a, rfl, rfl, ixn_lt (by rw [List.length_map, mins_len]; exact la), ?_⟩⟩)))))))))
      refine gs_aug rfl (gd_int ⟨1, rfl, ?_⟩)
      have es : ((minsM cs pl S).map PyData.int).set a (.int (csAt cs pl a).lo) = (minsM cs pl (a :: S)).map PyData.int := by
        rw [← mins_set la, List.map_set]
      have el : (l : Int) - 1 = ((l - 1 : Nat) : Int) := by omega
      show GoS K 0 _ [_, _, _, _, _, _, _, _, .d (.int ((l : Int) - 1)), _, _] [some (((minsM cs pl S).map PyData.int).set a (.int (csAt cs pl a).lo))] _
      rw [es, el]
      have hwd2 : (if lbV cs pl m a (l - 1) = stAt pl a then (a :: S) else wdF cs pl m n (nxtM cs pl m (leanAt cs pl a) (l - 1)) (l - 1) (a :: S)) = F := by
        unfold wdF at hwd
        rw [ov] at hwd
        exact hwd
      refine half (a :: S) (l - 1) (by omega) hwd2 fun at_ h => ?_
      rcases h with ⟨rfl, h⟩ | ⟨a', n', rfl, h1, h2, h3⟩
      · exact ⟨0, by omega, a :: S, l - 1, _, rfl, rfl, by omega, .inl ⟨rfl, rfl, h⟩⟩
      · exact ⟨a' + 1, by omega, a :: S, l - 1, _, rfl, rfl, by omega, .inr ⟨a', n', rfl, rfl, by omega, h2, h3⟩⟩
    · have ov : ovB cs pl m a l = false := hb
      have hwd2 : (if lbV cs pl m a l = stAt pl a then S else wdF cs pl m n (nxtM cs pl m (leanAt cs pl a) l) l S) = F := by
        unfold wdF at hwd
        rw [ov] at hwd
        exact hwd
      refine half S l hl hwd2 fun at_ h => ?_
      rcases h with ⟨rfl, h⟩ | ⟨a', n', rfl, h1, h2, h3⟩
      · exact ⟨0, by omega, S, l, _, rfl, rfl, hl, .inl ⟨rfl, rfl, h⟩⟩
      · exact ⟨a' + 1, by omega, S, l, _, rfl, rfl, hl, .inr ⟨a', n', rfl, rfl, by omega, h2, h3⟩⟩
end
end Go
namespace Go
open PySem PySem.Spec PyProof.Rows L2 SetMix ZipE
local macro_rules | `(tactic| walk_at "g") => `(tactic| first
  | ((with_reducible refine gd_var (d := ?dd) ?hv ?_); (case hv => exact rfl))
  | ((with_reducible refine gd_ixScr (ns := ?ns) ?hv ?_); (case hv => exact rfl))
  | ((with_reducible refine gd_ixCel (j := ?jj) ?hv ?_); (case hv => exact rfl))
  | ((with_reducible refine gd_lenScr (ns := ?ns) ?hv ?_); (case hv => exact rfl))
  | with_reducible first
    | refine gs_seq ?_ | refine gs_next ?_ | refine gs_ret ?_ | refine gs_asgD ?_ | refine gs_if ?_
    | refine gt_test ?_ | refine gt_B ?_ | refine gt_and ?_ | refine gt_or ?_ | refine gt_not ?_ | refine gt_yes ?_
    | refine gd_int ?_ | refine gd_str ?_ | refine gd_bl ?_ | refine gd_non ?_
    | refine gd_op ?_ | refine gd_tup ?_ | refine gd_lst ?_
    | refine gd_cb (r := rLenA _) ?_ | refine gd_cb (r := rTupleA _) ?_ | refine gd_cb (r := rAbsA) ?_ | refine gd_cb (r := rMax2A) ?_ | refine gd_cb (r := rMin2A) ?_ | refine gd_cb (r := rIntA) ?_ | refine gd_cb (r := rAny _) ?_ | refine gd_cb (r := rAll _) ?_ | refine gd_cb (r := rDictP _) ?_ | refine gd_cb (r := rMax _) ?_ | refine gd_cb (r := rMin _) ?_
    | refine gs_cons ?_ | refine gs_nil ?_ | refine gd_dget ?_
    | refine gd_and ?_ | refine gd_or ?_ | refine gd_not ?_
    | refine opd_addI ?_ | refine opd_sub ?_ | refine opd_lt ?_ | refine opd_le ?_ | refine opd_gt ?_ | refine opd_ge ?_
    | refine opd_lenL ?_ | refine opd_lenT ?_ | refine opd_tupleL ?_ | refine opd_tupleT ?_ | refine opd_max2 ?_ | refine opd_min2 ?_ | refine opd_abs ?_ | refine opd_intB ?_
    | refine Exists.intro _ (And.intro rfl ?_))
/-! ### papers -/
def encTu (xs : List Int) : D := .tuple (xs.map PyData.int)
def numsB (d : D) (k : Int) : Bool := match d with
  | .tuple xs => decide ((xs.length : Int) = k) && xs.all wholeB
  | _ => false
def wfB (c : Cs) (A R : List Int) : Bool := (List.range R.length).all fun k => decide (leM c A k ≤ R.getD k 0)
def rowPB (cs : List Cs) (pl : List Rw) (P : List (List Int)) (k : Nat) : Bool := ((P.getD k []).all fun y => decide (stAt pl k ≤ y)) && (leanAt cs pl k).all fun p => wfB (csAt cs pl p) (P.getD p []) (P.getD k [])
def unI (d : D) : Int := match d with
  | .int i => i
  | _ => 0
def unT (d : D) : List Int := match d with
  | .tuple xs => xs.map unI
  | _ => []
def papB (cs : List Cs) (pl : List Rw) (m : Nat) (d : D) : Bool := match d with
  | .tuple xs => decide (xs.length = pl.length) && ((xs.all fun x => numsB x ((m : Int) + 1)) && (List.range pl.length).all (rowPB cs pl (xs.map unT)))
  | _ => false
def Rpaper : RSpec := fun ss g post => ∃ cs pl, ∃ m : Nat, ss = [.d (encCs cs), .d (encP pl), .d (.int (m : Int))] ∧ g = [] ∧ OkP cs pl ∧ (∀ c ∈ cs, c.tm.length ≤ 1000) ∧ m ≤ 1000 ∧ post (.tuple ((lbAll cs pl m).map encTu)) []
def Rare_numbers : RSpec := fun ss g post => ∃ d k, ss = [.d d, .d (.int k)] ∧ g = [] ∧ k ≤ 10000 ∧ post (.bool (numsB d k)) []
def Rwaits_for : RSpec := fun ss g post => ∃ R c A, ss = [.d (encTu R), .d (encC c), .d (encTu A)] ∧ g = [] ∧ A.length = R.length ∧ R.length ≤ 10000 ∧ post (.bool (wfB c A R)) []
def Ris_paper : RSpec := fun ss g post => ∃ cs pl, ∃ (m : Nat) (d : D), ss = [.d (encCs cs), .d (encP pl), .d (.int (m : Int)), .d d] ∧ g = [] ∧ OkP cs pl ∧ (∀ c ∈ cs, c.tm.length ≤ 1000) ∧ m ≤ 1000 ∧ post (.bool (papB cs pl m d)) []
theorem nums_of {d : D} {k : Int} (h : numsB d k = true) : ∃ R : List Int, d = encTu R ∧ (R.length : Int) = k := by
  unfold numsB at h
  split at h
  · rename_i xs
    rw [Bool.and_eq_true] at h
    refine ⟨xs.map unI, ?_, by rw [List.length_map]; exact of_decide_eq_true h.1⟩
    unfold encTu
    rw [List.map_map]
    congr 1
    conv => lhs; rw [← List.map_id xs]
    refine List.map_congr_left fun x hx => ?_
    obtain ⟨i, rfl⟩ := whole_int (List.all_eq_true.mp h.2 x hx)
    rfl
  · cases h
theorem unT_enc (R : List Int) : unT (encTu R) = R := by
  unfold unT encTu
  dsimp only
  rw [List.map_map]
  have : (unI ∘ PyData.int) = id := rfl
  rw [this, List.map_id]
theorem numss_of : ∀ {xs : List D} {k : Int}, (xs.all fun x => numsB x k) = true → ∃ P : List (List Int), xs = P.map encTu ∧ ∀ R ∈ P, (R.length : Int) = k
  | [], _, _ => ⟨[], rfl, fun _ z => nomatch z⟩
  | x :: xs, k, h => by
    rw [List.all_cons, Bool.and_eq_true] at h
    obtain ⟨R, e, l⟩ := nums_of h.1
    obtain ⟨P, e2, l2⟩ := numss_of h.2
    refine ⟨R :: P, by rw [e, e2]; rfl, fun q hq => ?_⟩
    rcases List.mem_cons.mp hq with z | z
    · rw [z]; exact l
    · exact l2 q z
theorem unTs (P : List (List Int)) : (P.map encTu).map unT = P := by
  rw [List.map_map]
  have : (unT ∘ encTu) = id := funext unT_enc
  rw [this, List.map_id]
def encWf (c : Cs) (A R : List Int) (k : Nat) : D := .bool (decide (leM c A k ≤ R.getD k 0))
section
variable {K : PySem.W.Frag} {wd : PySem.World} {n : Nat} {ρ ts : List SV} {g : List Cell}
def rListA (K : PySem.W.Frag) : List V → Hp → VK → Prop := fun xs H Q => ∃ p ys, xs = [.ref p] ∧ (SqL K H p ys ∨ SqT K H p ys) ∧ ∀ l, H l = none → Q (.ref l) (upd H l (.lst ys))
theorem call_listA {X : Cx} : CallR X (.type "list") (rListA X.K) := call_list_of
theorem opd_listE {d : D} {ds : List D} {post : D → Prop} (hd : d = .list ds ∨ d = .tuple ds) (p : post (.list ds)) : OpD K (rListA K) [d] post := fun I H ws ex hw Q q => by
  obtain ⟨v, rfl, i⟩ := all1 hw
  rcases hd with rfl | rfl
  · obtain ⟨a, xs, rfl, hs, ha⟩ := is_list i
    exact ⟨a, xs, rfl, .inl (.inl (Evl.ex_rd ex hs)), fun l hl => outL ex q ha p hl⟩
  · obtain ⟨a, xs, rfl, hs, ha⟩ := is_tup i
    exact ⟨a, xs, rfl, .inr (Evl.ex_t ex hs), fun l hl => outL ex q ha p hl⟩
def tpaper (K : PySem.W.Frag) (wd : PySem.World) : TS := (tRet (tCB (rTupleA K) (tCons (tLc (iList K (tCall (spOf K Rlatest_begins) [] E0 (tCons (tVar 0) (tCons (tVar 1) (tCons (tVar 2) tNil))))) (gName 3) tYes (tCB (rTupleA K) (tCons (tVar 3) tNil)) [3]) tNil)))
theorem lbAll_len (cs : List Cs) (pl : List Rw) (m : Nat) : (lbAll cs pl m).length = pl.length := by unfold lbAll; rw [lbM_len]
theorem go_paper (ss : List SV) (g : List Cell) (post : D → List Cell → Prop) (h : Rpaper ss g post) : GoS K g.length (tpaper K wd) (ss ++ List.replicate (4 - ss.length) .no) g (KF g.length post) := by
  obtain ⟨cs, pl, m, rfl, rfl, ok, okl, hm, p⟩ := h
  unfold tpaper
  have l8 := ok.lp
  refine gs_ret (gd_cb (r := rTupleA K) (gs_cons (gd_mapT encL encTu mg_name (ij_name (by simp)) (gi_list (gd_call (gs_cons (gd_var rfl (gs_cons (gd_var rfl (gs_cons (gd_var rfl (gs_nil ⟨cs, pl, m, rfl, rfl, ok, okl, hm, _, rfl, lbAll cs pl m, rfl, by rw [lbAll_len]; omega, fun i r hr => gg_name (gd_cb (r := rTupleA K) (gs_cons (gd_var rfl (gs_nil (opd_tupleL ⟨rfl, rfl⟩))))), gs_nil (opd_tupleL ⟨_, rfl, p⟩)⟩))))))))))))
def tare_numbers (K : PySem.W.Frag) (wd : PySem.World) : TS := (tRet (tAndV (tCall (spOf K Ris_tuple) [] E0 (tCons (tVar 0) (tCons (tVar 1) (tCons (tVar 1) tNil)))) (tCB (rAll K) (tCons (tLc (iTup K (tVar 0)) (gName 2) tYes (tCall (spOf K Ris_whole) [] E0 (tCons (tVar 2) tNil)) [2]) tNil))))
def encWh (d : D) : D := .bool (wholeB d)
theorem tup_eq {d : D} {k : Int} : tupB d k k = (match d with | .tuple xs => decide ((xs.length : Int) = k) | _ => false) := by
  cases d with
  | tuple xs =>
    show (decide (k ≤ (xs.length : Int)) && decide ((xs.length : Int) ≤ k)) = decide ((xs.length : Int) = k)
    by_cases h : (xs.length : Int) = k
    · rw [decide_eq_true h, decide_eq_true (by omega), decide_eq_true (by omega)]
      rfl
    · rw [decide_eq_false h]
      by_cases h2 : k ≤ (xs.length : Int)
      · rw [decide_eq_false (show ¬ (xs.length : Int) ≤ k by omega), Bool.and_false]
      · rw [decide_eq_false h2, Bool.false_and]
  | _ => rfl
theorem go_are_numbers (ss : List SV) (g : List Cell) (post : D → List Cell → Prop) (h : Rare_numbers ss g post) : GoS K g.length (tare_numbers K wd) (ss ++ List.replicate (3 - ss.length) .no) g (KF g.length post) := by
  obtain ⟨d, k, rfl, rfl, hk, p⟩ := h
  unfold tare_numbers
  refine gs_ret (gd_and (gd_call (gs_cons (gd_var rfl (gs_cons (gd_var rfl (gs_cons (gd_var rfl (gs_nil ⟨d, k, k, rfl, rfl, _, rfl, fun hb => ?_, fun hb => ⟨_, rfl, ?_⟩⟩)))))))))
  · rw [tup_eq] at hb
    cases d with
    | tuple xs =>
      have hl := of_decide_eq_true hb
      have e : numsB (.tuple xs) k = xs.all wholeB := by
        show (decide ((xs.length : Int) = k) && _) = _
        rw [decide_eq_true hl, Bool.true_and]
      rw [e] at p
      refine gd_cb (r := rAll K) (gs_cons (gd_mapT id encWh mg_name (ij_name (by simp)) (gi_tup (gd_var rfl ⟨_, rfl, xs, (List.map_id xs).symm, by omega, fun i x hx => gg_name (gd_call (gs_cons (gd_var rfl (gs_nil ⟨x, rfl, rfl, rfl, rfl⟩)))), ?_⟩))))
      have e1 : xs.map encWh = (xs.map wholeB).map PyData.bool := by rw [List.map_map]; rfl
      rw [e1]
      refine gs_nil (opd_all ⟨_, rfl, ?_⟩)
      rw [List.all_map]
      exact p
    | _ => cases hb
  · rw [tup_eq] at hb
    have e : numsB d k = false := by
      cases d with
      | tuple xs =>
        show (decide ((xs.length : Int) = k) && _) = false
        have hb2 : decide ((xs.length : Int) = k) = false := hb
        rw [hb2, Bool.false_and]
      | _ => rfl
    rw [e] at p
    exact p
def twaits_for (K : PySem.W.Frag) (wd : PySem.World) : TS := (tRet (tCB (rAll K) (tCons (tLc (iRng1 (tCons (tCB (rLenA K) (tCons (tVar 0) tNil)) tNil)) (gName 3) tYes (tOp (rI0 fun i j => V.bl (decide (i ≤ j))) (tCall (spOf K Rlatest_end) [] E0 (tCons (tVar 1) (tCons (tVar 2) (tCons (tVar 3) tNil)))) (tOp (rIx K) (tVar 0) (tVar 3))) [3]) tNil)))
theorem go_waits_for (ss : List SV) (g : List Cell) (post : D → List Cell → Prop) (h : Rwaits_for ss g post) : GoS K g.length (twaits_for K wd) (ss ++ List.replicate (4 - ss.length) .no) g (KF g.length post) := by
  obtain ⟨R, c, A, rfl, rfl, hl, hz, p⟩ := h
  unfold twaits_for
  refine gs_ret (gd_cb (r := rAll K) (gs_cons (gd_mapT encI (encWf c A R) mg_name (ij_name (by simp)) (gi_rng1 (gs_cons (gd_cb (r := rLenA K) (gs_cons (gd_var rfl (gs_nil (opd_lenT (gs_nil ⟨_, rfl, by rw [List.length_map]; omega, by rw [List.length_map]; omega, List.range R.length, ?_, by rw [List.length_range]; omega, fun i k hk => gg_name ?_, ?_⟩)))))))))))
  · rw [Int.toNat_natCast, List.length_map]
    exact rng_enc _
  · obtain ⟨rfl, lk⟩ := range_at hk
    refine gd_op (gd_call (gs_cons (gd_var rfl (gs_cons (gd_var rfl (gs_cons (gd_var rfl (gs_nil ⟨c, _, A, k, rfl, rfl, .inr rfl, by omega, ?_⟩))))))))
    exact gd_op (gd_var rfl (gd_var rfl (opd_ixT (ix_int lk) (opd_le ⟨rfl, rfl⟩))))
  · have e : (List.range R.length).map (encWf c A R) = ((List.range R.length).map fun k => decide (leM c A k ≤ R.getD k 0)).map PyData.bool := by
      rw [List.map_map]
      rfl
    rw [e]
    refine gs_nil (opd_all ⟨_, rfl, ?_⟩)
    rw [List.all_map]
    exact p
def tis_paper (K : PySem.W.Frag) (wd : PySem.World) : TS := (tSeq (tIfS (tNot (tB (tCall (spOf K Ris_tuple) [] E0 (tCons (tVar 3) (tCons (tCB (rLenA K) (tCons (tVar 1) tNil)) (tCons (tCB (rLenA K) (tCons (tVar 1) tNil)) tNil)))))) (tRet (tC (.bl false))) tNext) (tSeq (tIfS (tNot (tB (tCB (rAll K) (tCons (tLc (iTup K (tVar 3)) (gName 7) tYes (tCall (spOf K Rare_numbers) [] E0 (tCons (tVar 7) (tCons (tOp (rAddA K) (tCall (spOf K Rmost_over) [] E0 (tCons (tVar 2) tNil)) (tC (.int 1))) tNil))) [7]) tNil)))) (tRet (tC (.bl false))) tNext) (tSeq (tAsg (tCall (spOf K Rin_order) [] E0 (tCons (tVar 0) (tCons (tVar 1) tNil))) (gName 4)) (tSeq (tAsg (tCall (spOf K Rleans) [] E0 (tCons (tVar 0) (tCons (tVar 1) tNil))) (gName 5)) (tSeq (tFor (iRng1 (tCons (tCB (rLenA K) (tCons (tVar 1) tNil)) tNil)) (gName 6) (tSeq (tIfS (tTest (tOp (rI0 fun i j => V.bl (decide (i < j))) (tCB (rMinS K) (tCons (tOp (rIx K) (tVar 3) (tVar 6)) tNil)) (tOp (rIx K) (tOp (rIx K) (tVar 1) (tVar 6)) (tC (.int 0))))) (tRet (tC (.bl false))) tNext) (tIfS (tNot (tB (tCB (rAll K) (tCons (tLc (iTup K (tOp (rIx K) (tVar 5) (tVar 6))) (gName 8) tYes (tCall (spOf K Rwaits_for) [] E0 (tCons (tOp (rIx K) (tVar 3) (tVar 6)) (tCons (tOp (rIx K) (tVar 4) (tVar 8)) (tCons (tOp (rIx K) (tVar 3) (tVar 8)) tNil)))) [8]) tNil)))) (tRet (tC (.bl false))) tNext))) (tRet (tC (.bl true))))))))
def encNB (m : Nat) (d : D) : D := .bool (numsB d ((m : Int) + 1))
def encWP (cs : List Cs) (pl : List Rw) (P : List (List Int)) (k p : Nat) : D := .bool (wfB (csAt cs pl p) (P.getD p []) (P.getD k []))
theorem all_range_snoc (f : Nat → Bool) (k : Nat) : (List.range (k + 1)).all f = ((List.range k).all f && f k) := by
  rw [List.range_succ, List.all_append]
  simp
theorem go_is_paper (ss : List SV) (g : List Cell) (post : D → List Cell → Prop) (h : Ris_paper ss g post) : GoS K g.length (tis_paper K wd) (ss ++ List.replicate (9 - ss.length) .no) g (KF g.length post) := by
  obtain ⟨cs, pl, m, d, rfl, rfl, ok, okl, hm, p⟩ := h
  unfold tis_paper
  have l8 := ok.lp
  refine gs_seq (gs_if (gt_not (gt_B (gd_call (gs_cons (gd_var rfl (gs_cons (gd_cb (r := rLenA K) (gs_cons (gd_var rfl (gs_nil (opd_lenT (gs_cons (gd_cb (r := rLenA K) (gs_cons (gd_var rfl (gs_nil (opd_lenT (gs_nil ⟨d, _, _, rfl, rfl, _, rfl, fun hb => ?_, fun hb => gs_next ?_⟩)))))))))))))))))))
  · have hb2 : tupB d ((pl.map encR).length : Nat) ((pl.map encR).length : Nat) = false := by simpa using hb
    rw [tup_eq, List.length_map] at hb2
    have e : papB cs pl m d = false := by
      cases d with
      | tuple xs =>
        have h2 : ¬ (xs.length : Int) = (pl.length : Int) := of_decide_eq_false hb2
        show (decide (xs.length = pl.length) && _) = false
        rw [decide_eq_false (by omega), Bool.false_and]
      | _ => rfl
    rw [e] at p
    exact gs_ret (gd_bl ⟨_, rfl, p⟩)
  have hb2 : tupB d ((pl.map encR).length : Nat) ((pl.map encR).length : Nat) = true := by simpa using hb
  rw [tup_eq, List.length_map] at hb2
  cases d with
  | tuple xs =>
    have hl : xs.length = pl.length := by have h2 := of_decide_eq_true hb2; omega
    have e : papB cs pl m (.tuple xs) = ((xs.all fun x => numsB x ((m : Int) + 1)) && (List.range pl.length).all (rowPB cs pl (xs.map unT))) := by
      show (decide (xs.length = pl.length) && _) = _
      rw [decide_eq_true hl, Bool.true_and]
    rw [e] at p
    refine gs_seq (gs_if (gt_not (gt_B (gd_cb (r := rAll K) (gs_cons (gd_mapT id (encNB m) mg_name (ij_name (by simp)) (gi_tup (gd_var rfl ⟨_, rfl, xs, (List.map_id xs).symm, by omega, fun i x hx => gg_name ?_, ?_⟩))))))))
    · refine gd_call (gs_cons (gd_var rfl (gs_cons (gd_op (gd_call (gs_cons (gd_var rfl (gs_nil ⟨m, rfl, rfl, ?_⟩))))))))
      exact gd_int (opd_addI (gs_nil ⟨x, (m : Int) + 1, rfl, rfl, by omega, rfl, rfl⟩))
    have e1 : xs.map (encNB m) = (xs.map fun x => numsB x ((m : Int) + 1)).map PyData.bool := by rw [List.map_map]; rfl
    rw [e1]
    refine gs_nil (opd_all ⟨_, rfl, fun h3 => ?_, fun h3 => gs_next ?_⟩)
    · rw [List.all_map] at h3
      have h4 : (xs.all fun x => numsB x ((m : Int) + 1)) = false := by simpa using h3
      rw [h4, Bool.false_and] at p
      exact gs_ret (gd_bl ⟨_, rfl, p⟩)
    rw [List.all_map] at h3
    have h4 : (xs.all fun x => numsB x ((m : Int) + 1)) = true := by simpa using h3
    rw [h4, Bool.true_and] at p
    obtain ⟨P, rfl, lP⟩ := numss_of h4
    rw [List.length_map] at hl
    rw [unTs] at p
    have gP : ∀ k, k < pl.length → P.getD k [] ∈ P := fun k hk => by
      rw [List.getD_eq_getElem?_getD, List.getElem?_eq_getElem (by omega : k < P.length)]
      exact List.getElem_mem _
    have ixP : ∀ k, k < pl.length → atI (P.map encTu) (k : Int) = some (encTu (P.getD k [])) := fun k hk => ix_map encTu (by omega)
    refine gs_seq (gs_asgD (gd_call (gs_cons (gd_var rfl (gs_cons (gd_var rfl (gs_nil ⟨cs, pl, rfl, rfl, ok, ?_⟩)))))))
    refine gs_seq (gs_asgD (gd_call (gs_cons (gd_var rfl (gs_cons (gd_var rfl (gs_nil ⟨cs, pl, rfl, rfl, ok, okl, ?_⟩)))))))
    refine gs_seq (gs_for (gi_rng1 (gs_cons (gd_cb (r := rLenA K) (gs_cons (gd_var rfl (gs_nil (opd_lenT (gs_nil ⟨_, rfl, by rw [List.length_map]; omega, by rw [List.length_map]; omega, ?_⟩)))))))))
    rw [Int.toNat_natCast, List.length_map]
    refine ⟨fun i ρ g => ∃ (x6 : SV), ρ = [.d (encCs cs), .d (encP pl), .d (.int (m : Int)), .d (.tuple (P.map encTu)), .d (.list ((planned cs pl).map encC)), .d (.list ((leansM cs pl).map encN)), x6, .no, .no] ∧ g = [] ∧ (List.range i).all (rowPB cs pl P) = true, ⟨.no, rfl, rfl, rfl⟩, fun i d ρ' g' hi ⟨x6, e1, e2, ha⟩ _ => ?_, fun ρ' g' ⟨x6, e1, e2, ha⟩ _ => ?_⟩
    · subst e1 e2
      obtain ⟨rfl, li⟩ := rng_at hi
      have bad : rowPB cs pl P i = false → post (.bool false) [] := fun e => by
        have : (List.range pl.length).all (rowPB cs pl P) = false := by
          rw [List.all_eq_false]
          exact ⟨i, List.mem_range.mpr li, by rw [e]; exact Bool.false_ne_true⟩
        rw [this] at p
        exact p
      have ixr : atI (pl.map encR) (i : Int) = some (encR (pl.getD i default)) := ix_map encR li
      have ixl : atI ((leansM cs pl).map encN) (i : Int) = some (encN (leanAt cs pl i)) := by
        refine atI_nat ?_
        unfold leansM
        rw [List.getElem?_map, List.getElem?_map, List.getElem?_range li]
        rfl
      have lPi := lP _ (gP i li)
      have ll := lean_len (cs := cs) (pl := pl) i
      refine gg_name (gs_seq (gs_if (gt_test (gd_op (gd_cb (r := rMinS K) (gs_cons (gd_op (gd_var rfl (gd_var rfl (opd_ixT (ixP i li) (gs_nil (opd_minT (by omega) fun v hv1 hv2 => ?_))))))))))))
      refine gd_op (gd_op (gd_var rfl (gd_var rfl (opd_ixT ixr (gd_int (opd_ixT (d := .int (stAt pl i)) rfl (opd_lt ⟨_, rfl, fun hb => ?_, fun hb => gs_next ?_⟩)))))))
      · have hlt := of_decide_eq_true hb
        refine gs_ret (gd_bl ⟨_, rfl, ⟨_, rfl, bad ?_⟩⟩)
        unfold rowPB
        have : ((P.getD i []).all fun y => decide (stAt pl i ≤ y)) = false := by
          rw [List.all_eq_false]
          exact ⟨v, hv1, by rw [decide_eq_false (by omega)]; exact Bool.false_ne_true⟩
        rw [this, Bool.false_and]
      have hge := of_decide_eq_false hb
      have all1 : ((P.getD i []).all fun y => decide (stAt pl i ≤ y)) = true := by
        rw [List.all_eq_true]
        intro y hy
        have := hv2 y hy
        exact decide_eq_true (by omega)
      refine gs_if (gt_not (gt_B (gd_cb (r := rAll K) (gs_cons (gd_mapT encI (encWP cs pl P i) mg_name (ij_name (by simp)) (gi_tup (gd_op (gd_var rfl (gd_var rfl (opd_ixL ixl ⟨_, rfl, leanAt cs pl i, rfl, by omega, fun j q hq => gg_name ?_, ?_⟩))))))))))
      · have lt : q < i := leanAt_lt (List.mem_of_getElem? hq)
        have lPq := lP _ (gP q (by omega))
        refine gd_call (gs_cons (gd_op (gd_var rfl (gd_var rfl (opd_ixT (ixP i li) (gs_cons (gd_op (gd_var rfl (gd_var rfl (opd_ixL (ix_planned (show q < pl.length by omega)) ?_))))))))))
        exact gs_cons (gd_op (gd_var rfl (gd_var rfl (opd_ixT (ixP q (by omega)) (gs_nil ⟨P.getD i [], csAt cs pl q, P.getD q [], rfl, rfl, by omega, by omega, rfl, rfl⟩)))))
      have e2 : (leanAt cs pl i).map (encWP cs pl P i) = ((leanAt cs pl i).map fun p => wfB (csAt cs pl p) (P.getD p []) (P.getD i [])).map PyData.bool := by
        rw [List.map_map]
        rfl
      rw [e2]
      refine gs_nil (opd_all ⟨_, rfl, fun h5 => ?_, fun h5 => gs_next ⟨_, rfl, rfl, ?_⟩⟩)
      · rw [List.all_map] at h5
        have h6 : ((leanAt cs pl i).all fun p => wfB (csAt cs pl p) (P.getD p []) (P.getD i [])) = false := by simpa using h5
        refine gs_ret (gd_bl ⟨_, rfl, ⟨_, rfl, bad ?_⟩⟩)
        unfold rowPB
        rw [h6, Bool.and_false]
      · rw [List.all_map] at h5
        have h6 : ((leanAt cs pl i).all fun p => wfB (csAt cs pl p) (P.getD p []) (P.getD i [])) = true := by simpa using h5
        rw [all_range_snoc, ha]
        unfold rowPB
        rw [all1, h6]
        rfl
    · subst e1 e2
      rw [rngD_len] at ha
      rw [ha] at p
      exact gs_ret (gd_bl ⟨_, rfl, p⟩)
  | _ => cases hb2
end
end Go
namespace Go
open PySem PySem.Spec PyProof.Rows L2 SetMix ZipE
local macro_rules | `(tactic| walk_at "g") => `(tactic| first
  | ((with_reducible refine gd_var (d := ?dd) ?hv ?_); (case hv => exact rfl))
  | ((with_reducible refine gd_ixScr (ns := ?ns) ?hv ?_); (case hv => exact rfl))
  | ((with_reducible refine gd_ixCel (j := ?jj) ?hv ?_); (case hv => exact rfl))
  | ((with_reducible refine gd_lenScr (ns := ?ns) ?hv ?_); (case hv => exact rfl))
  | with_reducible first
    | refine gs_seq ?_ | refine gs_next ?_ | refine gs_ret ?_ | refine gs_asgD ?_ | refine gs_if ?_
    | refine gt_test ?_ | refine gt_B ?_ | refine gt_and ?_ | refine gt_or ?_ | refine gt_not ?_ | refine gt_yes ?_
    | refine gd_int ?_ | refine gd_str ?_ | refine gd_bl ?_ | refine gd_non ?_
    | refine gd_op ?_ | refine gd_tup ?_ | refine gd_lst ?_
    | refine gd_cb (r := rLenA _) ?_ | refine gd_cb (r := rTupleA _) ?_ | refine gd_cb (r := rAbsA) ?_ | refine gd_cb (r := rMax2A) ?_ | refine gd_cb (r := rMin2A) ?_ | refine gd_cb (r := rIntA) ?_ | refine gd_cb (r := rAny _) ?_ | refine gd_cb (r := rAll _) ?_ | refine gd_cb (r := rDictP _) ?_ | refine gd_cb (r := rMax _) ?_ | refine gd_cb (r := rMin _) ?_
    | refine gs_cons ?_ | refine gs_nil ?_ | refine gd_dget ?_
    | refine gd_and ?_ | refine gd_or ?_ | refine gd_not ?_
    | refine opd_addI ?_ | refine opd_sub ?_ | refine opd_lt ?_ | refine opd_le ?_ | refine opd_gt ?_ | refine opd_ge ?_
    | refine opd_lenL ?_ | refine opd_lenT ?_ | refine opd_tupleL ?_ | refine opd_tupleT ?_ | refine opd_max2 ?_ | refine opd_min2 ?_ | refine opd_abs ?_ | refine opd_intB ?_
    | refine Exists.intro _ (And.intro rfl ?_))
/-! ### the latest end of each one -/
abbrev Acc := List (Key × Int)
def addP (acc : Acc) (p : Str) (e : Int) : Acc := putA acc (.inr p) (max e ((lk acc (.inr p)).getD e))
def addAll (acc : Acc) (ps : List Str) (e : Int) : Acc := ps.foldl (fun a p => addP a p e) acc
def endsM (cs : List Cs) (pl : List Rw) (m : Nat) : Nat → Acc
  | 0 => []
  | k + 1 => addAll (endsM cs pl m k) (csAt cs pl k).tm (leV cs pl m k m)
def vOf (kv : Key × Int) : Key × V := (kv.1, V.int kv.2)
def accV (acc : Acc) : List (Key × V) := acc.map vOf
def accD (acc : Acc) : List (Key × D) := acc.map fun kv => (kv.1, PyData.int kv.2)
theorem val_acc (acc : Acc) (k : Key) : valV (accV acc) k = (lk acc k).map V.int := by
  unfold valV accV lk
  rw [List.find?_map, Option.map_map, Option.map_map]
  rfl
theorem put_acc (acc : Acc) (k : Key) (e : Int) : putK (accV acc) k (.int e) = accV (putA acc k e) := by
  unfold putK putA accV
  rw [List.any_map]
  have ea : (acc.any ((fun kv => decide (kv.1 = k)) ∘ vOf)) = acc.any fun kv => decide (kv.1 = k) := rfl
  rw [ea]
  split
  · rw [List.map_map, List.map_map]
    refine List.map_congr_left fun kv _ => ?_
    show (if kv.1 = k then (kv.1, V.int e) else vOf kv) = vOf (if kv.1 = k then (kv.1, e) else kv)
    split <;> rfl
  · rw [List.map_append]
    rfl
structure PD (I H : Hp) (q : Addr) (acc : Acc) (I' H' : Hp) : Prop where
  ii : Evl.Ex I I'
  ih : Evl.Ex I' H'
  iq : I' q = none
  hq : H' q = some (.dK (accV acc))
  fr : ∀ a o, H a = some o → H' a = some o
  nw : ∀ a, H a ≠ none → I a = none → I' a = none
theorem PD.step {I H I' H' I2 H2 : Hp} {q : Addr} {acc : Acc} (h : PD I H q acc I' H') (f : Fr [] I' H' I2 H2) : PD I H q acc I2 H2 where
  ii := h.ii.trans f.ii
  ih := f.ih
  iq := f.nw q (by rw [h.hq]; exact fun z => nomatch z) h.iq
  hq := f.fr q _ (fun z => nomatch z) h.hq
  fr := fun a o e => f.fr a o (fun z => nomatch z) (h.fr a o e)
  nw := fun a e n => f.nw a (by
    cases z : H a with
    | none => exact absurd z e
    | some o => rw [h.fr a o z]; exact fun y => nomatch y) (h.nw a e n)
theorem PD.put {I H I' H' : Hp} {q : Addr} {acc acc' : Acc} (hq0 : H q = none) (h : PD I H q acc I' H') : PD I H q acc' I' (upd H' q (.dK (accV acc'))) where
  ii := h.ii
  ih := fun a o e => by rw [upd_ne (ne_of_none e h.iq)]; exact h.ih a o e
  iq := h.iq
  hq := upd_same
  fr := fun a o e => by rw [upd_ne (ne_of_none e hq0)]; exact h.fr a o e
  nw := h.nw
def Rlatest_ends_by_person : RSpec := fun ss g post => ∃ cs pl, ∃ m : Nat, ss = [.d (encCs cs), .d (encP pl), .d (.int (m : Int))] ∧ g = [] ∧ OkP cs pl ∧ (∀ c ∈ cs, c.tm.length ≤ 1000) ∧ m ≤ 1000 ∧ post (dct (accD (endsM cs pl m pl.length))) []
def itE (cs : List Cs) (pl : List Rw) (m k : Nat) : D := .tuple [encC (csAt cs pl k), latT cs pl m k]
theorem acc_len (acc : Acc) (ps : List Str) (e : Int) : (addAll acc ps e).length ≤ acc.length + ps.length := by
  induction ps generalizing acc with
  | nil => exact Nat.le_refl _
  | cons p ps ih =>
    have a := ih (addP acc p e)
    have b : (addP acc p e).length ≤ acc.length + 1 := by
      unfold addP putA
      split
      · rw [List.length_map]; omega
      · rw [List.length_append]; exact Nat.le_refl _
    show (addAll (addP acc p e) ps e).length ≤ _
    rw [List.length_cons]
    omega
theorem ends_len {cs : List Cs} {pl : List Rw} {m : Nat} (ok : OkP cs pl) (okl : ∀ c ∈ cs, c.tm.length ≤ 1000) : ∀ k, k ≤ pl.length → (endsM cs pl m k).length ≤ k * 1000
  | 0, _ => Nat.zero_le _
  | k + 1, hk => by
    have a := ends_len (m := m) ok okl k (by omega)
    have b := acc_len (endsM cs pl m k) (csAt cs pl k).tm (leV cs pl m k m)
    have c := okl _ (ok.get (getD_mem (show k < pl.length by omega))).1
    show (addAll (endsM cs pl m k) (csAt cs pl k).tm (leV cs pl m k m)).length ≤ _
    have d : (csAt cs pl k).tm.length ≤ 1000 := c
    omega
theorem kv_acc {K : PySem.W.Frag} {I : Hp} : ∀ acc : Acc, IsKV K I (accV acc) ((accD acc).map fun kv => (kD kv.1, kv.2))
  | [] => .nil
  | kv :: acc => .cons (.int _) (kv_acc acc)
section
variable {K : PySem.W.Frag} {wd : PySem.World} {n : Nat} {ρ ts : List SV} {g : List Cell}
def tlatest_ends_by_person (K : PySem.W.Frag) (wd : PySem.World) : TS := (tSeq (tAsg tDNewK (gName 3)) (tSeq (tFor (iZip2 K (tCons (tCall (spOf K Rin_order) [] E0 (tCons (tVar 0) (tCons (tVar 1) tNil))) (tCons (tCall (spOf K Rlatest) [] E0 (tCons (tVar 0) (tCons (tVar 1) (tCons (tVar 2) tNil)))) tNil))) (gTup K 2 (gCons (gName 4) (gCons (gTup K 3 (gCons (gName 6) (gCons (gName 7) (gCons (gName 8) gNil)))) gNil))) (tFor (iTup K (tOp (rIx K) (tVar 4) (tC (.int 3)))) (gName 5) (sDPut (tVar 3) (tVar 5) (tCB rMax2A (tCons (tVar 8) (tCons (tDGet2 (tVar 3) (tVar 5) (tVar 8)) tNil)))))) (tRet (tVar 3))))
theorem go_latest_ends_by_person (ss : List SV) (g : List Cell) (post : D → List Cell → Prop) (h : Rlatest_ends_by_person ss g post) : GoS K g.length (tlatest_ends_by_person K wd) (ss ++ List.replicate (9 - ss.length) .no) g (KF g.length post) := by
  obtain ⟨cs, pl, m, rfl, rfl, ok, okl, hm, p⟩ := h
  have l8 := ok.lp
  intro I0 H0 bs σ H E hn ⟨I, ls, w⟩ me
  have eb : bs = [] := List.length_eq_zero_iff.mp hn
  subst eb
  have el : ls = [] := List.length_eq_zero_iff.mp w.ce.len
  subst el
  unfold tlatest_ends_by_person
  intro q hq
  have ex1 : Evl.Ex I (upd H q (.dK [])) := fun a o e => by rw [upd_ne (ne_of_none (w.fr.ih a o e) hq)]; exact w.fr.ih a o e
  have iq : I q = none := Evl.fresh_back w.fr.ih hq
  have w1 : World K I (upd H q (.dK [])) [] [.d (encCs cs), .d (encP pl), .d (.int (m : Int)), .no, .no, .no, .no, .no, .no] [] [] (σ.set 3 (some (.ref q))) [] (upd H q (.dK [])) :=
    ⟨I, [], ⟨Fr.refl ex1, .nil, (fun _ z => nomatch z), Paired.set (RelS.no) 3 w.rs, .nil⟩⟩
  have gi : GoI K 0 (iZip2 K (tCons (tCall (spOf K Rin_order) [] E0 (tCons (tVar 0) (tCons (tVar 1) tNil))) (tCons (tCall (spOf K Rlatest) [] E0 (tCons (tVar 0) (tCons (tVar 1) (tCons (tVar 2) tNil)))) tNil))) [.d (encCs cs), .d (encP pl), .d (.int (m : Int)), .no, .no, .no, .no, .no, .no] [] [] fun items g1 => items = (List.range pl.length).map (itE cs pl m) := by
    refine gi_zip2 (gs_cons (gd_call ?_))
    (repeat (walk_at "g"))
    refine ⟨cs, pl, rfl, rfl, ok, gs_cons (gd_call ?_)⟩
    (repeat (walk_at "g"))
    refine ⟨cs, pl, m, rfl, rfl, ok, okl, hm, gs_nil ⟨_, _, _, _, rfl, .inl rfl, .inl rfl, ?_⟩⟩
    rw [planned_range, ← latT_eq, zip2_map]
    rfl
  obtain ⟨v0, v1, v2, o4, o5, o6, o7, o8, eσ⟩ : ∃ v0 v1 v2 o4 o5 o6 o7 o8, σ.set 3 (some (.ref q)) = [v0, v1, v2, some (.ref q), o4, o5, o6, o7, o8] := by
    have l9 : σ.length = 9 := Paired.length w.rs
    match σ, l9 with
    | [_, _, _, _, _, _, _, _, _], _ => exact ⟨_, _, _, _, _, _, _, _, rfl⟩
  unfold gName tSeq tFor
  dsimp only
  refine gi I (upd H q (.dK [])) [] (σ.set 3 (some (.ref q))) [] (upd H q (.dK [])) rfl w1 _ fun J H2 g2 items I2 ls2 w2 wk pz => ?_
  subst pz
  have pd0 : PD I H q [] I2 H2 := PD.step ⟨(Fr.refl (as := []) ex1).ii, ex1, iq, upd_same, (fun a o e => by rw [upd_ne (ne_of_none e hq)]; exact e), (fun _ _ z => z)⟩ w2.fr
  have i2 : Evl.Ex I2 I2 := (Fr.refl (as := []) w2.fr.ih).ii
  refine ⟨fun i k σ' H' => i + k = pl.length ∧ ∃ I' y4 y5 y6 y7 y8, σ' = [v0, v1, v2, some (.ref q), y4, y5, y6, y7, y8] ∧ Evl.Ex I2 I' ∧ PD I H q (endsM cs pl m i) I' H', ⟨pl.length, by omega, I2, o4, o5, o6, o7, o8, eσ, i2, pd0⟩, fun i k σ' H3 hW => ?_⟩
  obtain ⟨em, I3, y4, y5, y6, y7, y8, rfl, e3, pd⟩ := hW
  by_cases hi : i < pl.length
  · refine .inr ⟨wk.go i I3 H3 e3 pd.ih (by rw [List.length_map, List.length_range]; exact hi), fun σ' H' => ∃ I' y4 y5 y6 y7 y8, σ' = [v0, v1, v2, some (.ref q), y4, y5, y6, y7, y8] ∧ Evl.Ex I2 I' ∧ PD I H q (endsM cs pl m (i + 1)) I' H', fun σ' H' hN => ⟨k - 1, by omega, by omega, hN⟩, fun x H4 hy => ?_⟩
    obtain ⟨I4, f4, ix⟩ := wk.yld i (itE cs pl m i) I3 H3 x H4 e3 pd.ih (by rw [List.getElem?_map, List.getElem?_range hi]; rfl) hy
    have pd4 := pd.step f4
    obtain ⟨a, xs, rfl, ha, hx⟩ := is_tup ix
    cases hx with
    | cons ic t1 =>
      cases t1 with
      | cons it t2 =>
        cases t2
        rename_i vc vt
        have it' : Is K I4 vt (.tuple [.str (nmAt pl i), .int (lbV cs pl m i m), .int (leV cs pl m i m)]) := it
        obtain ⟨a2, ys, rfl, ha2, hx2⟩ := is_tup it'
        cases hx2 with
        | cons j1 u1 =>
          cases u1 with
          | cons j2 u2 =>
            cases u2 with
            | cons j3 u3 =>
              cases u3
              cases is_int j3
              rename_i vn vb
              refine ⟨a, _, rfl, Evl.ex_t pd4.ih ha, rfl, vc, _, rfl, _, [], rfl, ⟨a2, _, rfl, Evl.ex_t pd4.ih ha2, rfl, vn, _, rfl, vb, _, rfl, _, [], rfl, rfl, rfl, ?_⟩⟩
              have wj : World K I4 H4 [] [.no, .no, .no, .no, .d (encC (csAt cs pl i)), .no, .no, .no, .no] [] [] [v0, v1, v2, some (.ref q), some vc, y5, some vn, some vb, some (.int (leV cs pl m i m))] [] H4 :=
                ⟨I4, [], ⟨Fr.refl pd4.ih, .nil, (fun _ z => nomatch z), .cons .no (.cons .no (.cons .no (.cons .no (.cons (.d ic) (.cons .no (.cons .no (.cons .no (.cons .no .nil)))))))), .nil⟩⟩
              have gj : GoI K 0 (iTup K (tOp (rIx K) (tVar 4) (tC (.int 3)))) [.no, .no, .no, .no, .d (encC (csAt cs pl i)), .no, .no, .no, .no] [] [] fun items g1 => items = (csAt cs pl i).tm.map PyData.str := gi_tup (gd_op (gd_var rfl (gd_int (opd_ixT (d := .tuple ((csAt cs pl i).tm.map PyData.str)) rfl ⟨_, rfl, rfl⟩))))
              refine gj I4 H4 [] _ [] H4 rfl wj _ fun J2 H5 g5 items2 I5 ls5 w5 wk2 pz2 => ?_
              subst pz2
              have pd5 := pd4.step w5.fr
              have i5 : Evl.Ex I5 I5 := (Fr.refl (as := []) w5.fr.ih).ii
              have e25 : Evl.Ex I2 I5 := (e3.trans f4.ii).trans w5.fr.ii
              refine ⟨fun j k σ' H' => j + k = (csAt cs pl i).tm.length ∧ ∃ I' y5, σ' = [v0, v1, v2, some (.ref q), some vc, y5, some vn, some vb, some (.int (leV cs pl m i m))] ∧ Evl.Ex I5 I' ∧ PD I H q (addAll (endsM cs pl m i) ((csAt cs pl i).tm.take j) (leV cs pl m i m)) I' H', ⟨(csAt cs pl i).tm.length, by omega, I5, y5, rfl, i5, pd5⟩, fun j k σ' H6 hW2 => ?_⟩
              obtain ⟨em2, I6, z5, rfl, e6, pd6⟩ := hW2
              by_cases hj : j < (csAt cs pl i).tm.length
              · have hpj : (csAt cs pl i).tm[j]? = some ((csAt cs pl i).tm[j]) := List.getElem?_eq_getElem hj
                generalize (csAt cs pl i).tm[j] = pn at hpj
                refine .inr ⟨wk2.go j I6 H6 e6 pd6.ih (by rw [List.length_map]; exact hj), fun σ' H' => ∃ I' y5, σ' = [v0, v1, v2, some (.ref q), some vc, y5, some vn, some vb, some (.int (leV cs pl m i m))] ∧ Evl.Ex I5 I' ∧ PD I H q (addAll (endsM cs pl m i) ((csAt cs pl i).tm.take (j + 1)) (leV cs pl m i m)) I' H', fun σ' H' hN => ⟨k - 1, by omega, by omega, hN⟩, fun x H7 hy2 => ?_⟩
                obtain ⟨I7, f7, ip⟩ := wk2.yld j (.str pn) I6 H6 x H7 e6 pd6.ih (by rw [List.getElem?_map, hpj]; rfl) hy2
                cases is_str ip
                have pd7 := pd6.step f7
                have tk : addAll (endsM cs pl m i) ((csAt cs pl i).tm.take (j + 1)) (leV cs pl m i m) = addP (addAll (endsM cs pl m i) ((csAt cs pl i).tm.take j) (leV cs pl m i m)) pn (leV cs pl m i m) := by
                  unfold addAll
                  rw [List.take_add_one, hpj, List.foldl_append]
                  rfl
                have ln : (addAll (endsM cs pl m i) ((csAt cs pl i).tm.take j) (leV cs pl m i m)).length < 100000 := by
                  have a := acc_len (endsM cs pl m i) ((csAt cs pl i).tm.take j) (leV cs pl m i m)
                  have b := ends_len (m := m) ok okl i (by omega)
                  have c : (csAt cs pl i).tm.length ≤ 1000 := okl _ (ok.get (getD_mem hi)).1
                  rw [List.length_take] at a
                  omega
                rw [tk]
                generalize addAll (endsM cs pl m i) ((csAt cs pl i).tm.take j) (leV cs pl m i m) = acc at pd7 ln
                generalize leV cs pl m i m = ev
                have ov : (valV (accV acc) (.inr pn)).getD (.int ev) = .int ((lk acc (.inr pn)).getD ev) := by
                  rw [val_acc]
                  cases lk acc (.inr pn) <;> rfl
                refine ⟨.int ev, rfl, .ref q, rfl, q, rfl, .inl ⟨_, .inl pd7.hq⟩, .str pn, rfl, .int ev, rfl, _, .inl ⟨_, .inr pn, .inl pd7.hq, rfl, rfl⟩, ev, (lk acc (.inr pn)).getD ev, by rw [ov], .ref q, rfl, .str pn, rfl, q, _, rfl, .inl ⟨_, .inr pn, pd7.hq, rfl, by unfold accV; rw [List.length_map]; exact Nat.lt_of_lt_of_le ln (Evl.sz_of (Nat.le_refl 100000)), rfl⟩, I7, _, rfl, e6.trans f7.ii, ?_⟩
                rw [max_if, put_acc]
                exact pd7.put hq
              · have e : j = (csAt cs pl i).tm.length := by omega
                subst e
                rw [List.take_length] at pd6
                exact .inl ⟨by have := wk2.stop I6 H6 e6 pd6.ih; rw [List.length_map] at this; exact this, I6, _, _, _, _, _, rfl, e25.trans e6, pd6⟩
  · have e : i = pl.length := by omega
    subst e
    refine .inl ⟨by have := wk.stop I3 H3 e3 pd.ih; rw [List.length_map, List.length_range] at this; exact this, ?_⟩
    have frD : Fr [] I H (upd I3 q (.dK (accV (endsM cs pl m pl.length)))) H3 := by
      refine ⟨fun a o e => ?_, fun a o e => ?_, fun a o _ e => pd.fr a o e, fun a e => ?_, fun a e z => ?_⟩
      · rw [upd_ne (ne_of_none e iq)]; exact pd.ii a o e
      · by_cases z : a = q
        · subst z; rw [upd_same] at e; rw [← e]; exact pd.hq
        · rw [upd_ne z] at e; exact pd.ih a o e
      · cases z : H a with
        | none => exact absurd z e
        | some o => rw [pd.fr a o z]; exact fun y => nomatch y
      · have nq : a ≠ q := fun y => e (y ▸ hq)
        rw [upd_ne nq]; exact pd.nw a e z
    refine ⟨.ref q, rfl, me.rt (.ref q) [v0, v1, v2, some (.ref q), y4, y5, y6, y7, y8] H3 [.no, .no, .no, .no, .no, .no, .no, .no, .no] (.d (dct (accD (endsM cs pl m pl.length)))) [] ⟨upd I3 q (.dK (accV (endsM cs pl m pl.length))), [], ⟨w.fr.trans frD, .nil, (fun _ z => nomatch z), .cons .no (.cons .no (.cons .no (.cons .no (.cons .no (.cons .no (.cons .no (.cons .no (.cons .no .nil)))))))), .cons (.d (.dic upd_same (kv_acc _))) .nil⟩⟩ ⟨_, rfl, p⟩⟩
end
end Go
namespace Go
open PySem PySem.Spec PyProof.Rows L2 SetMix ZipE
local macro_rules | `(tactic| walk_at "g") => `(tactic| first
  | ((with_reducible refine gd_var (d := ?dd) ?hv ?_); (case hv => exact rfl))
  | ((with_reducible refine gd_ixScr (ns := ?ns) ?hv ?_); (case hv => exact rfl))
  | ((with_reducible refine gd_ixCel (j := ?jj) ?hv ?_); (case hv => exact rfl))
  | ((with_reducible refine gd_lenScr (ns := ?ns) ?hv ?_); (case hv => exact rfl))
  | with_reducible first
    | refine gs_seq ?_ | refine gs_next ?_ | refine gs_ret ?_ | refine gs_asgD ?_ | refine gs_if ?_
    | refine gt_test ?_ | refine gt_B ?_ | refine gt_and ?_ | refine gt_or ?_ | refine gt_not ?_ | refine gt_yes ?_
    | refine gd_int ?_ | refine gd_str ?_ | refine gd_bl ?_ | refine gd_non ?_
    | refine gd_op ?_ | refine gd_tup ?_ | refine gd_lst ?_
    | refine gd_cb (r := rLenA _) ?_ | refine gd_cb (r := rTupleA _) ?_ | refine gd_cb (r := rAbsA) ?_ | refine gd_cb (r := rMax2A) ?_ | refine gd_cb (r := rMin2A) ?_ | refine gd_cb (r := rIntA) ?_ | refine gd_cb (r := rAny _) ?_ | refine gd_cb (r := rAll _) ?_ | refine gd_cb (r := rDictP _) ?_ | refine gd_cb (r := rMax _) ?_ | refine gd_cb (r := rMin _) ?_
    | refine gs_cons ?_ | refine gs_nil ?_ | refine gd_dget ?_
    | refine gd_and ?_ | refine gd_or ?_ | refine gd_not ?_
    | refine opd_addI ?_ | refine opd_sub ?_ | refine opd_lt ?_ | refine opd_le ?_ | refine opd_gt ?_ | refine opd_ge ?_
    | refine opd_lenL ?_ | refine opd_lenT ?_ | refine opd_tupleL ?_ | refine opd_tupleT ?_ | refine opd_max2 ?_ | refine opd_min2 ?_ | refine opd_abs ?_ | refine opd_intB ?_
    | refine Exists.intro _ (And.intro rfl ?_))
section
variable {K : PySem.W.Frag} {wd : PySem.World} {n : Nat} {ρ ts : List SV} {g : List Cell}
theorem gd_dget2 {td ty tx : TE} {post : D → List Cell → Prop} (h : GoD K n td ρ ts g fun d g1 => ∃ kds, d = dct kds ∧ GoD K n ty ρ (.d d :: ts) g1 fun dk g2 => GoD K n tx ρ (.d dk :: .d d :: ts) g2 fun dx g3 => ∃ k, dk = kD k ∧ post ((lk kds k).getD dx) g3) : GoD K n (tDGet2 td ty tx) ρ ts g post := by
  intro I0 H0 bs σ vs H hn w Q q
  refine h I0 H0 bs σ vs H hn w _ fun v H1 s g1 ⟨I1, ls1, w1⟩ ⟨d, e, kds, e2, p⟩ => ?_
  subst e e2
  have w1' := w1
  obtain ⟨w0, r0⟩ := w1.pop
  cases r0 with
  | d i0 =>
    obtain ⟨a, kvs, rfl, ha, hv⟩ := is_dct i0
    refine ⟨a, rfl, .inl ⟨kvs, .inl (w0.fr.ih _ _ ha)⟩, p I0 H0 bs σ _ H1 hn ⟨I1, ls1, w1'⟩ _ fun y H2 s2 g2 w2 ⟨dk, e, p2⟩ => ?_⟩
    subst e
    refine p2 I0 H0 bs σ _ H2 hn w2 _ fun z H3 s3 g3 ⟨I, ls, w3⟩ ⟨dx, e, k, e2, pp⟩ => ?_
    subst e e2
    obtain ⟨w4, r3⟩ := w3.pop
    obtain ⟨w5, r2⟩ := w4.pop
    obtain ⟨w6, r1⟩ := w5.pop
    cases r1 with
    | d i1 =>
      cases r2 with
      | d i2 =>
        cases r3 with
        | d i3 =>
          obtain ⟨a', kvs, e, ha, hv⟩ := is_dct i1
          cases e
          cases is_kV i2
          refine ⟨valV kvs k, .inl ⟨kvs, k, .inl (w6.fr.ih _ _ ha), rfl, rfl⟩, ?_⟩
          cases y : lk kds k with
          | none =>
            rw [hv.look0 y]
            rw [y] at pp
            exact q z H3 (.d dx) g3 ⟨I, ls, w6.push (.d i3)⟩ ⟨_, rfl, pp⟩
          | some dv =>
            obtain ⟨u, hu, iu⟩ := hv.look y
            rw [hu]
            rw [y] at pp
            exact q u H3 (.d dv) g3 ⟨I, ls, w6.push (.d iu)⟩ ⟨_, rfl, pp⟩
end
theorem lk_putA {α : Type} (acc : List (Key × α)) (k k' : Key) (v : α) : lk (putA acc k v) k' = if k = k' then some v else lk acc k' := by
  induction acc with
  | nil =>
    unfold putA
    rw [if_neg (by simp)]
    by_cases e : k = k'
    · subst e; rw [if_pos rfl]; exact lk_pos rfl
    · rw [if_neg e]; exact lk_neg e
  | cons x r ih =>
    by_cases ex : x.1 = k
    · have e1 : putA (x :: r) k v = (x.1, v) :: r.map (fun kv => if kv.1 = k then (kv.1, v) else kv) := by
        unfold putA
        rw [if_pos (by simp [ex]), List.map_cons, if_pos ex]
      rw [e1]
      by_cases e : k = k'
      · rw [if_pos e]; exact lk_pos (ex.trans e)
      · rw [if_neg e, lk_neg (show ¬ (x.1, v).1 = k' from fun z => e (ex.symm.trans z)), lk_neg (show ¬ x.1 = k' from fun z => e (ex.symm.trans z))]
        unfold lk
        rw [List.find?_map, Option.map_map]
        have : ((fun kv : Key × α => decide (kv.1 = k')) ∘ fun kv => if kv.1 = k then (kv.1, v) else kv) = fun kv => decide (kv.1 = k') := by
          funext kv
          show decide ((if kv.1 = k then (kv.1, v) else kv).1 = k') = _
          split <;> rfl
        rw [this]
        cases z : r.find? fun kv => decide (kv.1 = k') with
        | none => rfl
        | some kv =>
          have hk0 := List.find?_some z
          have hk : kv.1 = k' := of_decide_eq_true hk0
          show some (if kv.1 = k then (kv.1, v) else kv).2 = some kv.2
          rw [if_neg (fun y => e (y.symm.trans hk))]
    · have e1 : putA (x :: r) k v = x :: putA r k v := by
        unfold putA
        by_cases hr : (r.any fun kv => decide (kv.1 = k)) = true
        · rw [if_pos (by rw [List.any_cons, hr, Bool.or_true]), if_pos hr, List.map_cons, if_neg ex]
        · rw [if_neg (by rw [List.any_cons]; simp only [ex, decide_false, Bool.false_or]; exact hr), if_neg hr]
          rfl
      rw [e1]
      by_cases e : x.1 = k'
      · rw [lk_pos e, lk_pos e, if_neg (fun y => ex (e.trans y.symm))]
      · rw [lk_neg e, lk_neg e, ih]
theorem lk_addAll (p : Str) (e : Int) : ∀ (ps : List Str) (acc : Acc), lk (addAll acc ps e) (.inr p) = if p ∈ ps then some (max e ((lk acc (.inr p)).getD e)) else lk acc (.inr p)
  | [], acc => by rw [if_neg (fun z => nomatch z)]; rfl
  | x :: ps, acc => by
    show lk (addAll (addP acc x e) ps e) (.inr p) = _
    rw [lk_addAll p e ps (addP acc x e)]
    unfold addP
    rw [lk_putA]
    by_cases h : x = p
    · subst h
      rw [if_pos rfl, if_pos List.mem_cons_self]
      split
      · show some (max e (max e ((lk acc (.inr x)).getD e))) = _
        congr 1
        omega
      · rfl
    · have ne : ¬ (Sum.inr x : Key) = .inr p := fun z => h (Sum.inr.inj z)
      rw [if_neg ne]
      have iff : p ∈ x :: ps ↔ p ∈ ps := by
        rw [List.mem_cons]
        exact ⟨fun z => z.elim (fun y => absurd y.symm h) id, .inr⟩
      simp only [iff]
theorem ends_ok {cs : List Cs} {pl : List Rw} {m : Nat} (p : Str) : ∀ n, (∀ k, k < n → p ∈ (csAt cs pl k).tm → ∃ M, lk (endsM cs pl m n) (.inr p) = some M ∧ leV cs pl m k m ≤ M) ∧ (∀ M, lk (endsM cs pl m n) (.inr p) = some M → ∃ k, k < n ∧ p ∈ (csAt cs pl k).tm ∧ M = leV cs pl m k m)
  | 0 => ⟨fun _ h => absurd h (by omega), fun _ h => nomatch h⟩
  | n + 1 => by
    obtain ⟨a, b⟩ := ends_ok (cs := cs) (pl := pl) (m := m) p n
    have e : lk (endsM cs pl m (n + 1)) (.inr p) = if p ∈ (csAt cs pl n).tm then some (max (leV cs pl m n m) ((lk (endsM cs pl m n) (.inr p)).getD (leV cs pl m n m))) else lk (endsM cs pl m n) (.inr p) := lk_addAll p _ _ _
    rw [e]
    by_cases h : p ∈ (csAt cs pl n).tm
    · rw [if_pos h]
      refine ⟨fun k hk hp => ⟨_, rfl, ?_⟩, fun M hM => ?_⟩
      · by_cases ek : k = n
        · subst ek; omega
        · obtain ⟨M, h1, h2⟩ := a k (by omega) hp
          rw [h1]
          show _ ≤ max _ M
          omega
      · have eM := Option.some.inj hM
        cases z : lk (endsM cs pl m n) (.inr p) with
        | none =>
          rw [z] at eM
          exact ⟨n, by omega, h, by rw [← eM]; exact Int.max_self _⟩
        | some M' =>
          rw [z] at eM
          have eM' : max (leV cs pl m n m) M' = M := eM
          obtain ⟨k, hk, hp, e2⟩ := b M' z
          by_cases le : M' ≤ leV cs pl m n m
          · exact ⟨n, by omega, h, by omega⟩
          · exact ⟨k, by omega, hp, by omega⟩
    · rw [if_neg h]
      refine ⟨fun k hk hp => ?_, fun M hM => ?_⟩
      · by_cases ek : k = n
        · subst ek; exact absurd hp h
        · exact a k (by omega) hp
      · obtain ⟨k, hk, hp, e2⟩ := b M hM
        exact ⟨k, by omega, hp, e2⟩
/-! ### beyond their hours -/
abbrev P2 := Str × Int
def encP2 (h : P2) : D := .tuple [.str h.1, .int h.2]
def byE (acc : Acc) (h : P2) : D := .tuple [.str h.1, .int (max 0 ((lk acc (.inr h.1)).getD h.2 - h.2))]
theorem lk_accD (acc : Acc) (k : Key) (x : Int) : (lk (accD acc) k).getD (.int x) = .int ((lk acc k).getD x) := by
  unfold lk accD
  rw [List.find?_map, Option.map_map]
  show ((acc.find? fun kv => decide (kv.1 = k)).map _).getD _ = _
  cases acc.find? fun kv => decide (kv.1 = k) <;> rfl
def Rbeyond : RSpec := fun ss g post => ∃ cs pl, ∃ m : Nat, ∃ hs : List P2, ss = [.d (encCs cs), .d (encP pl), .d (.int (m : Int)), .d (.tuple (hs.map encP2))] ∧ g = [] ∧ OkP cs pl ∧ (∀ c ∈ cs, c.tm.length ≤ 1000) ∧ m ≤ 1000 ∧ hs.length ≤ 1000 ∧ post (.list (hs.map (byE (endsM cs pl m pl.length)))) []
section
variable {K : PySem.W.Frag} {wd : PySem.World} {n : Nat} {ρ ts : List SV} {g : List Cell}
def tbeyond (K : PySem.W.Frag) (wd : PySem.World) : TS := (tSeq (tAsg (tCall (spOf K Rlatest_ends_by_person) [] E0 (tCons (tVar 0) (tCons (tVar 1) (tCons (tVar 2) tNil)))) (gName 4)) (tRet (tLc (iTup K (tVar 3)) (gTup K 2 (gCons (gName 5) (gCons (gName 6) gNil))) tYes (tTup (tCons (tVar 5) (tCons (tCB rMax2A (tCons (tC (.int 0)) (tCons (tOp (rI0 fun i j => V.int (i - j)) (tDGet2 (tVar 4) (tVar 5) (tVar 6)) (tVar 6)) tNil))) tNil))) [5, 6])))
theorem go_beyond (ss : List SV) (g : List Cell) (post : D → List Cell → Prop) (h : Rbeyond ss g post) : GoS K g.length (tbeyond K wd) (ss ++ List.replicate (7 - ss.length) .no) g (KF g.length post) := by
  obtain ⟨cs, pl, m, hs, rfl, rfl, ok, okl, hm, hh, p⟩ := h
  unfold tbeyond
  refine gs_seq (gs_asgD (gd_call ?_))
  (repeat (walk_at "g"))
  refine ⟨cs, pl, m, rfl, rfl, ok, okl, hm, ?_⟩
  refine gs_ret (gd_mapT encP2 (byE (endsM cs pl m pl.length)) mg2 (ij2 (by simp) (by simp)) (gi_tup (gd_var rfl ⟨_, rfl, hs, rfl, by omega, fun i h hh => gg2 ?_, ⟨_, rfl, p⟩⟩)))
  refine gd_tup (gs_cons (gd_var rfl (gs_cons (gd_cb (r := rMax2A) (gs_cons (gd_int (gs_cons (gd_op (gd_dget2 (gd_var rfl ⟨_, rfl, gd_var rfl (gd_var rfl ⟨.inr h.1, rfl, ?_⟩)⟩))))))))))
  rw [lk_accD]
  refine gd_var rfl (opd_sub (gs_nil (opd_max2 (gs_nil ⟨by show 2 ≤ 100000; decide, rfl, ?_⟩))))
  unfold byE
  rw [max_if]
end
end Go
namespace Go
open PySem PySem.Spec PyProof.Rows L2 SetMix ZipE
/-! ### what the worst day, days within, and papers keep -/
theorem bd_ge (cs : List Cs) (pl : List Rw) (mins : List Int) (k : Nat) : stAt pl k ≤ bdM cs pl mins k ∧ ∀ p ∈ leanAt cs pl k, bdM cs pl mins p + mins.getD p 0 ≤ bdM cs pl mins k := by
  rw [bdM_eq cs pl mins k]
  exact ⟨bgn_ge.1, fun p hp => bgn_ge.2 _ (List.mem_map.mpr ⟨p, hp, rfl⟩)⟩
theorem wd_ok {cs : List Cs} {pl : List Rw} {m : Nat} : ∀ (n a l : Nat) (S0 : List Nat), a < n → a < pl.length → l ≤ m → (∀ x ∈ S0, a < x) → ∃ S1, wdF cs pl m n a l S0 = S1 ++ S0 ∧ (∀ x ∈ S1, x ≤ a) ∧ S1.length ≤ l ∧ S1.Nodup ∧ leV cs pl m a l ≤ bdM cs pl (minsM cs pl (S1 ++ S0)) a + minAt cs pl (S1 ++ S0) a
  | 0, a, _, _, h, _, _, _ => absurd h (by omega)
  | n + 1, a, l, S0, _, ha, hl, h0 => by
    unfold wdF
    cases ov : ovB cs pl m a l with
    | true =>
      obtain ⟨l0, el⟩ := ov_pos ov
      rw [if_pos rfl]
      by_cases e : lbV cs pl m a (l - 1) = stAt pl a
      · rw [if_pos e]
        refine ⟨[a], rfl, fun x hx => by rw [List.mem_singleton] at hx; omega, by show 1 ≤ l; omega, by simp, ?_⟩
        have hg := (bd_ge cs pl (minsM cs pl ([a] ++ S0)) a).1
        have em : minAt cs pl ([a] ++ S0) a = (csAt cs pl a).lo := by unfold minAt; exact if_pos (List.mem_append_left _ (List.mem_singleton.mpr rfl))
        rw [el, e, em]
        omega
      · rw [if_neg e]
        obtain ⟨x1, x2⟩ := nxt_lb (show l - 1 ≤ m by omega) e
        have lt := leanAt_lt x1
        generalize nxtM cs pl m (leanAt cs pl a) (l - 1) = p at x1 x2 lt
        obtain ⟨S1, e1, e2, e3, e4, e5⟩ := wd_ok (cs := cs) (pl := pl) (m := m) n p (l - 1) (a :: S0) (by omega) (by omega) (by omega) fun x hx => by
          rcases List.mem_cons.mp hx with z | z
          · omega
          · have := h0 x z; omega
        have ea : S1 ++ a :: S0 = (S1 ++ [a]) ++ S0 := by rw [List.append_assoc]; rfl
        refine ⟨S1 ++ [a], by rw [if_pos rfl, e1, ea], fun x hx => ?_, by rw [List.length_append]; show S1.length + 1 ≤ l; omega, ?_, ?_⟩
        · rcases List.mem_append.mp hx with z | z
          · have := e2 x z; omega
          · rw [List.mem_singleton] at z; omega
        · refine List.nodup_append.mpr ⟨e4, by simp, fun x hx y hy => ?_⟩
          rw [List.mem_singleton] at hy
          have := e2 x hx
          omega
        · rw [ea] at e5
          have hg := (bd_ge cs pl (minsM cs pl ((S1 ++ [a]) ++ S0)) a).2 p x1
          rw [minsM_at cs pl _ (show p < pl.length by omega)] at hg
          have em : minAt cs pl ((S1 ++ [a]) ++ S0) a = (csAt cs pl a).lo := by
            unfold minAt
            rw [if_pos (List.mem_append_left _ (List.mem_append_right _ (List.mem_singleton.mpr rfl)))]
          rw [el, x2, em]
          omega
    | false =>
      rw [if_neg Bool.false_ne_true]
      have hno := of_decide_eq_false ov
      have hu := leV_us cs pl m a l
      by_cases e : lbV cs pl m a l = stAt pl a
      · rw [if_pos e]
        refine ⟨[], rfl, (fun _ z => nomatch z), Nat.zero_le _, .nil, ?_⟩
        have hg := (bd_ge cs pl (minsM cs pl ([] ++ S0)) a).1
        have em : minAt cs pl ([] ++ S0) a = (csAt cs pl a).us := by
          unfold minAt
          rw [if_neg fun z => by have := h0 a z; omega]
        rw [em]
        omega
      · rw [if_neg e]
        obtain ⟨x1, x2⟩ := nxt_lb hl e
        have lt := leanAt_lt x1
        generalize nxtM cs pl m (leanAt cs pl a) l = p at x1 x2 lt
        obtain ⟨S1, e1, e2, e3, e4, e5⟩ := wd_ok (cs := cs) (pl := pl) (m := m) n p l S0 (by omega) (by omega) hl fun x hx => by have := h0 x hx; omega
        refine ⟨S1, by rw [if_neg Bool.false_ne_true]; exact e1, fun x hx => by have := e2 x hx; omega, e3, e4, ?_⟩
        have hg := (bd_ge cs pl (minsM cs pl (S1 ++ S0)) a).2 p x1
        rw [minsM_at cs pl _ (show p < pl.length by omega)] at hg
        have em : minAt cs pl (S1 ++ S0) a = (csAt cs pl a).us := by
          unfold minAt
          rw [if_neg fun z => ?_]
          rcases List.mem_append.mp z with y | y
          · have := e2 a y; omega
          · have := h0 a y; omega
        rw [em]
        omega
theorem up_day {cs : List Cs} {pl : List Rw} {m k : Nat} {S : List Nat} (hS : S.length ≤ m) (hk : k < pl.length) : bdM cs pl (minsM cs pl S) k ≤ lbV cs pl m k m ∧ bdM cs pl (minsM cs pl S) k + (minsM cs pl S).getD k 0 ≤ leV cs pl m k m := by
  have hc : ∀ j, cnt S j ≤ m := fun j => Nat.le_trans (cnt_len S j) hS
  exact ⟨up_begin k m (by omega) (Nat.le_refl _) (hc k), up_end hk hk (hc pl.length) (Nat.le_refl _) fun c hcm hcc => up_begin k c (by omega) hcm hcc⟩
theorem wd_end {cs : List Cs} {pl : List Rw} {m k : Nat} (hk : k < pl.length) : (wdF cs pl m (k + 1) k m []).length ≤ m ∧ (wdF cs pl m (k + 1) k m []).Nodup ∧ bdM cs pl (minsM cs pl (wdF cs pl m (k + 1) k m [])) k + (minsM cs pl (wdF cs pl m (k + 1) k m [])).getD k 0 = leV cs pl m k m := by
  obtain ⟨S1, e1, _, e3, e4, e5⟩ := wd_ok (cs := cs) (pl := pl) (m := m) (k + 1) k m [] (by omega) hk (Nat.le_refl _) fun _ z => nomatch z
  rw [List.append_nil] at e1 e5
  rw [e1]
  refine ⟨e3, e4, Int.le_antisymm (up_day e3 hk).2 ?_⟩
  rw [minsM_at cs pl S1 hk]
  exact e5
theorem bd_mono {cs : List Cs} {pl : List Rw} {m1 m2 : List Int} : ∀ k, (∀ q, q < k → m1.getD q 0 ≤ m2.getD q 0) → bdM cs pl m1 k ≤ bdM cs pl m2 k := by
  intro k
  induction k using Nat.strongRecOn with
  | _ k ih =>
    intro h
    rw [bdM_eq cs pl m1 k]
    refine bgn_le (bd_ge cs pl m2 k).1 fun y hy => ?_
    obtain ⟨p, hp, rfl⟩ := List.mem_map.mp hy
    have lt := leanAt_lt hp
    have h1 := ih p lt fun q hq => h q (by omega)
    have h2 := h p lt
    have h3 := (bd_ge cs pl m2 k).2 p hp
    show bdM cs pl m1 p + m1.getD p 0 ≤ _
    omega
structure Within (cs : List Cs) (pl : List Rw) (m : Nat) (mins : List Int) : Prop where
  len : mins.length = pl.length
  so : ∃ S : List Nat, S.length ≤ m ∧ ∀ k, k < pl.length → mins.getD k 0 ≤ minAt cs pl S k
theorem Within.le {cs : List Cs} {pl : List Rw} {m k : Nat} {mins : List Int} (h : Within cs pl m mins) (hk : k < pl.length) : bdM cs pl mins k ≤ lbV cs pl m k m ∧ bdM cs pl mins k + mins.getD k 0 ≤ leV cs pl m k m := by
  obtain ⟨S, h1, h2⟩ := h.so
  obtain ⟨a, b⟩ := up_day (cs := cs) (pl := pl) h1 hk
  have c := bd_mono (cs := cs) (pl := pl) (m1 := mins) (m2 := minsM cs pl S) k fun q hq => by
    rw [minsM_at cs pl S (by omega)]
    exact h2 q (by omega)
  have d := h2 k hk
  rw [minsM_at cs pl S hk] at b
  omega
/-- a paper, by its rows -/
def RowOk (cs : List Cs) (pl : List Rw) (m : Nat) (P : List (List Int)) (k : Nat) : Prop := ∀ c, c ≤ m → stAt pl k ≤ (P.getD k []).getD c 0 ∧ ∀ p ∈ leanAt cs pl k, leM (csAt cs pl p) (P.getD p []) c ≤ (P.getD k []).getD c 0
structure LaterOk (cs : List Cs) (pl : List Rw) (m : Nat) (P : List (List Int)) : Prop where
  len : P.length = pl.length
  rl : ∀ R ∈ P, R.length = m + 1
  ok : ∀ k, k < pl.length → RowOk cs pl m P k
theorem later_lb {cs : List Cs} {pl : List Rw} {m : Nat} {P : List (List Int)} (h : LaterOk cs pl m P) : ∀ k, k < pl.length → ∀ c, c ≤ m → lbV cs pl m k c ≤ (P.getD k []).getD c 0 := by
  intro k
  induction k using Nat.strongRecOn with
  | _ k ih =>
    intro hk c hc
    obtain ⟨a, b⟩ := h.ok k hk c hc
    rw [lbV_eq cs pl k hc]
    refine bgn_le a fun y hy => ?_
    obtain ⟨p, hp, rfl⟩ := List.mem_map.mp hy
    have lt := leanAt_lt hp
    have h1 := b p hp
    have i1 := ih p lt (by omega) c hc
    refine Int.le_trans ?_ h1
    show leM (csAt cs pl p) (rwM cs pl m p) c ≤ leM (csAt cs pl p) (P.getD p []) c
    have e : ∀ j, (rwM cs pl m p).getD j 0 = lbV cs pl m p j := fun j => rfl
    unfold leM
    by_cases c0 : 0 < c
    · have i2 := ih p lt (by omega) (c - 1) (by omega)
      rw [if_pos c0, if_pos c0, e, e]
      omega
    · rw [if_neg c0, if_neg c0, e]
      omega
theorem later_pap {cs : List Cs} {pl : List Rw} {m : Nat} {P : List (List Int)} (h : LaterOk cs pl m P) : papB cs pl m (.tuple (P.map encTu)) = true := by
  show (decide ((P.map encTu).length = pl.length) && (((P.map encTu).all fun x => numsB x ((m : Int) + 1)) && (List.range pl.length).all (rowPB cs pl ((P.map encTu).map unT)))) = true
  rw [unTs, List.length_map, decide_eq_true h.len, Bool.true_and]
  have e1 : ((P.map encTu).all fun x => numsB x ((m : Int) + 1)) = true := by
    rw [List.all_eq_true]
    intro x hx
    obtain ⟨R, hR, rfl⟩ := List.mem_map.mp hx
    have hl := h.rl R hR
    show (decide (((R.map PyData.int).length : Int) = (m : Int) + 1) && (R.map PyData.int).all wholeB) = true
    rw [List.length_map, decide_eq_true (by omega), Bool.true_and, List.all_eq_true]
    intro y hy
    obtain ⟨i, _, rfl⟩ := List.mem_map.mp hy
    rfl
  rw [e1, Bool.true_and, List.all_eq_true]
  intro k hk
  have lk := List.mem_range.mp hk
  have ok := h.ok k lk
  have mem : P.getD k [] ∈ P := by
    rw [List.getD_eq_getElem?_getD, List.getElem?_eq_getElem (by rw [h.len]; exact lk)]
    exact List.getElem_mem _
  have rl := h.rl _ mem
  unfold rowPB
  rw [Bool.and_eq_true, List.all_eq_true, List.all_eq_true]
  refine ⟨fun y hy => decide_eq_true ?_, fun p hp => ?_⟩
  · obtain ⟨c, hc, rfl⟩ := List.mem_iff_getElem.mp hy
    have := (ok c (by omega)).1
    rw [List.getD_eq_getElem?_getD, List.getElem?_eq_getElem hc] at this
    exact this
  · unfold wfB
    rw [List.all_eq_true]
    intro c hc
    have lc := List.mem_range.mp hc
    exact decide_eq_true ((ok c (by omega)).2 p hp)
theorem lb_later (cs : List Cs) (pl : List Rw) (m : Nat) : LaterOk cs pl m (lbAll cs pl m) := by
  have at_ : ∀ k, k < pl.length → (lbAll cs pl m).getD k [] = rwM cs pl m k := fun k hk => lbM_at cs pl m pl.length k hk
  refine ⟨lbAll_len cs pl m, fun R hR => ?_, fun k hk c hc => ?_⟩
  · rw [lbAll_eq] at hR
    obtain ⟨k, _, rfl⟩ := List.mem_map.mp hR
    exact rw_len cs pl m k
  · rw [at_ k hk]
    refine ⟨lb_ge cs pl k hc, fun p hp => ?_⟩
    have lt := leanAt_lt hp
    rw [at_ p (by omega)]
    show leV cs pl m p c ≤ lbV cs pl m k c
    rw [lbV_eq cs pl k hc]
    exact bgn_ge.2 _ (List.mem_map.mpr ⟨p, hp, rfl⟩)
end Go
namespace Go
open PySem PySem.Spec PyProof.Rows L2 SetMix ZipE
local macro_rules | `(tactic| walk_at "g") => `(tactic| first
  | ((with_reducible refine gd_var (d := ?dd) ?hv ?_); (case hv => exact rfl))
  | ((with_reducible refine gd_ixScr (ns := ?ns) ?hv ?_); (case hv => exact rfl))
  | ((with_reducible refine gd_ixCel (j := ?jj) ?hv ?_); (case hv => exact rfl))
  | ((with_reducible refine gd_lenScr (ns := ?ns) ?hv ?_); (case hv => exact rfl))
  | with_reducible first
    | refine gs_seq ?_ | refine gs_next ?_ | refine gs_ret ?_ | refine gs_asgD ?_ | refine gs_if ?_
    | refine gt_test ?_ | refine gt_B ?_ | refine gt_and ?_ | refine gt_or ?_ | refine gt_not ?_ | refine gt_yes ?_
    | refine gd_int ?_ | refine gd_str ?_ | refine gd_bl ?_ | refine gd_non ?_
    | refine gd_op ?_ | refine gd_tup ?_ | refine gd_lst ?_
    | refine gd_cb (r := rLenA _) ?_ | refine gd_cb (r := rTupleA _) ?_ | refine gd_cb (r := rAbsA) ?_ | refine gd_cb (r := rMax2A) ?_ | refine gd_cb (r := rMin2A) ?_ | refine gd_cb (r := rIntA) ?_ | refine gd_cb (r := rAny _) ?_ | refine gd_cb (r := rAll _) ?_ | refine gd_cb (r := rDictP _) ?_ | refine gd_cb (r := rMax _) ?_ | refine gd_cb (r := rMin _) ?_
    | refine gs_cons ?_ | refine gs_nil ?_ | refine gd_dget ?_
    | refine gd_and ?_ | refine gd_or ?_ | refine gd_not ?_
    | refine opd_addI ?_ | refine opd_sub ?_ | refine opd_lt ?_ | refine opd_le ?_ | refine opd_gt ?_ | refine opd_ge ?_
    | refine opd_lenL ?_ | refine opd_lenT ?_ | refine opd_tupleL ?_ | refine opd_tupleT ?_ | refine opd_max2 ?_ | refine opd_min2 ?_ | refine opd_abs ?_ | refine opd_intB ?_
    | refine Exists.intro _ (And.intro rfl ?_))
def UB (cs : List Cs) (pl : List Rw) : Prop := (∀ c ∈ cs, c.us ≤ 400 ∧ c.lo ≤ 400) ∧ ∀ r ∈ pl, r.st ≤ 1000
def R_law_later : RSpec := fun ss g post => ∃ (b : List D) (cs : List Cs) (pl : List Rw) (m : Nat), ss = [.c 0, .d (encCs cs), .d (encP pl), .d (.int (m : Int))] ∧ g = [some b] ∧ Bag b ∧ OkP cs pl ∧ (∀ c ∈ cs, c.tm.length ≤ 1000) ∧ m ≤ 1000 ∧ ∀ P b', LaterOk cs pl m P → (UB cs pl → ∀ R ∈ P, ∀ y ∈ R, y ≤ 2000 * (pl.length : Int)) → Bag b' → post (.tuple (P.map encTu)) [some b']
def R_law_within_day : RSpec := fun ss g post => ∃ (b : List D) (cs : List Cs) (pl : List Rw) (m : Nat), ss = [.c 0, .d (encCs cs), .d (encP pl), .d (.int (m : Int))] ∧ g = [some b] ∧ Bag b ∧ OkP cs pl ∧ (∀ c ∈ cs, 1 ≤ c.us ∧ c.us ≤ c.lo ∧ c.lo ≤ 400) ∧ ∀ mins b', Within cs pl m mins → Bag b' → post (.tuple (mins.map PyData.int)) [some b']
theorem getD0_mem {l : List Int} {k : Nat} (h : k < l.length) : l.getD k 0 ∈ l := by
  rw [List.getD_eq_getElem?_getD, List.getElem?_eq_getElem h]
  exact List.getElem_mem _
theorem getD_app {α : Type} {l : List α} {x y d : α} {k : Nat} (h : k < l.length) : (l ++ [x]).getD k d = l.getD k d := by
  rw [List.getD_eq_getElem?_getD, List.getD_eq_getElem?_getD, List.getElem?_append_left h]
theorem getD_end {α : Type} (l : List α) (x d : α) : (l ++ [x]).getD l.length d = x := by
  rw [List.getD_eq_getElem?_getD, List.getElem?_append_right (Nat.le_refl _), Nat.sub_self]
  rfl
section
variable {K : PySem.W.Frag} {wd : PySem.World} {n : Nat} {ρ ts : List SV} {g : List Cell}
def t_law_later (K : PySem.W.Frag) (wd : PySem.World) : TS := (tSeq (tAsg (tCB (rDictP K) (tCons (tLc (iTup K (tVar 1)) (gName 13) tYes (tTup (tCons (tOp (rIx K) (tVar 13) (tC (.int 0))) (tCons (tVar 13) tNil))) [13]) tNil)) (gName 4)) (tSeq (tAsg (tCall (spOf K R_law_leans) [] E0 (tCons (tVar 1) (tCons (tVar 2) tNil))) (gName 5)) (tSeq (tAsg (tLst tNil) (gName 6)) (tSeq (tFor (iEnum1 K (tCons (tVar 2) tNil)) (gTup K 2 (gCons (gName 7) (gCons (gName 8) gNil))) (tSeq (tAsg (tLst tNil) (gName 9)) (tSeq (tFor (iRng1 (tCons (tOp (rAddA K) (tVar 3) (tC (.int 1))) tNil)) (gName 10) (tSeq (tAsg (tOp (rIx K) (tVar 8) (tC (.int 0))) (gName 11)) (tSeq (tFor (iTup K (tOp (rIx K) (tVar 5) (tVar 7))) (gName 12) (tSeq (tAsg (tSl (rSlA K) (tDGet (tVar 4) (tOp (rIx K) (tOp (rIx K) (tVar 2) (tVar 12)) (tC (.int 1)))) (tPart (tC (.int 1))) (tPart (tC (.int 3)))) (gTup K 2 (gCons (gName 14) (gCons (gName 15) gNil)))) (tSeq (tAsg (tCB rMax2A (tCons (tVar 11) (tCons (tOp (rAddA K) (tOp (rIx K) (tOp (rIx K) (tVar 6) (tVar 12)) (tVar 10)) (tVar 14)) tNil))) (gName 11)) (tIfS (tTest (tOp (rI0 fun i j => V.bl (decide (j < i))) (tVar 10) (tC (.int 0)))) (tAsg (tCB rMax2A (tCons (tVar 11) (tCons (tOp (rAddA K) (tOp (rIx K) (tOp (rIx K) (tVar 6) (tVar 12)) (tOp (rI0 fun i j => V.int (i - j)) (tVar 10) (tC (.int 1)))) (tVar 15)) tNil))) (gName 11)) tNext)))) (tDrop (tBM K "list" rAppend (tVar 9) (tCons (tOp (rAddA K) (tVar 11) (tOp (rIx K) (tLst (tCons (tC (.int 0)) (tCons (tC (.int 0)) (tCons (tCall (spOf K R_law_take) [] E0 (tCons (tVar 0) (tCons (tC (.int 50)) tNil))) tNil)))) (tCall (spOf K R_law_take) [] E0 (tCons (tVar 0) (tCons (tC (.int 3)) tNil))))) tNil)))))) (tDrop (tBM K "list" rAppend (tVar 6) (tCons (tCB (rTupleA K) (tCons (tVar 9) tNil)) tNil)))))) (tRet (tCB (rTupleA K) (tCons (tVar 6) tNil)))))))
theorem go_law_later (ss : List SV) (g : List Cell) (post : D → List Cell → Prop) (h : R_law_later ss g post) : GoS K g.length (t_law_later K wd) (ss ++ List.replicate (16 - ss.length) .no) g (KF g.length post) := by
  obtain ⟨b, cs, pl, m, rfl, rfl, hb, ok, okl, hm, p⟩ := h
  unfold t_law_later
  have l8 := ok.lp
  refine gs_seq (gs_asgD (gd_cb (r := rDictP K) (gs_cons (gd_mapT encC encCt mg_name (ij_name (by simp)) (gi_tup (gd_var rfl ⟨_, rfl, cs, rfl, by have := ok.lc; omega, fun i c hc => gg_name ?_, ?_⟩))))))
  · (repeat (walk_at "g"))
    refine opd_ixT (d := .str c.nm) rfl ?_
    (repeat (walk_at "g"))
    exact ⟨by show 2 ≤ 100000; decide, rfl, rfl⟩
  rw [enc_pr]
  refine gs_nil (opd_dict ?_)
  refine gs_seq (gs_asgD (gd_call (gs_cons (gd_var rfl (gs_cons (gd_var rfl (gs_nil ⟨cs, pl, rfl, rfl, ok, okl, ?_⟩)))))))
  refine gs_seq (gs_asg (ge_lstC (gs_nil ⟨by decide, ?_⟩)))
  refine gs_seq (gs_for (gi_enum (gs_cons (gd_var rfl (gs_nil ⟨_, _, rfl, .inr rfl, ?_⟩)))))
  refine ⟨fun i ρ g => ∃ (x7 x8 x9 y0 y1 y2 y4 y5 : SV) (b : List D) (P : List (List Int)), ρ = [.c 0, .d (encCs cs), .d (encP pl), .d (.int (m : Int)), .d (dct (dictC cs)), .d (.list ((leansM cs pl).map encN)), .c 1, x7, x8, x9, y0, y1, y2, .no, y4, y5] ∧ g = [some b, some (P.map encTu)] ∧ Bag b ∧ P.length = i ∧ (∀ R ∈ P, R.length = m + 1) ∧ (UB cs pl → ∀ R ∈ P, ∀ y ∈ R, y ≤ 2000 * (i : Int)) ∧ ∀ k, k < i → RowOk cs pl m P k, ⟨.no, .no, .no, .no, .no, .no, .no, .no, b, [], rfl, rfl, hb, rfl, (fun _ z => nomatch z), (fun _ _ z => nomatch z), fun k hk => absurd hk (by omega)⟩, fun i d ρ' g' hi ⟨x7, x8, x9, y0, y1, y2, y4, y5, b, P, e1, e2, hb, hP, hR, hU, hO⟩ _ => ?_, fun ρ' g' ⟨x7, x8, x9, y0, y1, y2, y4, y5, b, P, e1, e2, hb, hP, hR, hU, hO⟩ _ => ?_⟩
  · subst e1 e2
    obtain ⟨e, he, rfl⟩ := enum_get hi
    obtain ⟨r, hr, rfl⟩ := at_map he
    have li : i < pl.length := (List.getElem?_eq_some_iff.mp hr).1
    have er : pl.getD i default = r := by rw [List.getD_eq_getElem?_getD, hr]; rfl
    have est : stAt pl i = r.st := by unfold stAt; rw [er]
    have ixl : atI ((leansM cs pl).map encN) (i : Int) = some (encN (leanAt cs pl i)) := by
      refine atI_nat ?_
      unfold leansM
      rw [List.getElem?_map, List.getElem?_map, List.getElem?_range li]
      rfl
    have ll := lean_len (cs := cs) (pl := pl) i
    refine gg2 (gs_seq (gs_asg (ge_lstC (gs_nil ⟨by decide, ?_⟩))))
    refine gs_seq (gs_for (gi_rng1 (gs_cons (gd_op (gd_var rfl (gd_int (opd_addI (gs_nil ⟨_, rfl, by omega, by omega, ?_⟩))))))))
    rw [show ((m : Int) + 1).toNat = m + 1 by omega]
    refine ⟨fun c ρ g => ∃ (y0 y1 y2 y4 y5 : SV) (b : List D) (R : List Int), ρ = [.c 0, .d (encCs cs), .d (encP pl), .d (.int (m : Int)), .d (dct (dictC cs)), .d (.list ((leansM cs pl).map encN)), .c 1, .d (.int (i : Int)), .d (encR r), .c 2, y0, y1, y2, .no, y4, y5] ∧ g = [some b, some (P.map encTu), some (R.map PyData.int)] ∧ Bag b ∧ R.length = c ∧ (UB cs pl → ∀ y ∈ R, y ≤ 2000 * ((i : Int) + 1)) ∧ ∀ c', c' < c → stAt pl i ≤ R.getD c' 0 ∧ ∀ p ∈ leanAt cs pl i, leM (csAt cs pl p) (P.getD p []) c' ≤ R.getD c' 0, ⟨y0, y1, y2, y4, y5, b, [], rfl, rfl, hb, rfl, (fun _ _ z => nomatch z), fun k hk => absurd hk (by omega)⟩, fun c d ρ' g' hc ⟨y0, y1, y2, y4, y5, b, R, e1, e2, hb, hl, hV, hc2⟩ _ => ?_, fun ρ' g' ⟨y0, y1, y2, y4, y5, b, R, e1, e2, hb, hl, hV, hc2⟩ _ => ?_⟩
    · subst e1 e2
      obtain ⟨rfl, lc⟩ := rng_at hc
      refine gg_name (gs_seq (gs_asgD (gd_op (gd_var rfl (gd_int (opd_ixT (d := .int r.st) rfl ?_))))))
      refine gs_seq (gs_for (gi_tup (gd_op (gd_var rfl (gd_var rfl (opd_ixL ixl ⟨_, rfl, ?_⟩))))))
      refine ⟨fun j ρ g => ∃ (y2 y4 y5 : SV) (least : Int), ρ = [.c 0, .d (encCs cs), .d (encP pl), .d (.int (m : Int)), .d (dct (dictC cs)), .d (.list ((leansM cs pl).map encN)), .c 1, .d (.int (i : Int)), .d (encR r), .c 2, .d (.int (c : Int)), .d (.int least), y2, .no, y4, y5] ∧ g = [some b, some (P.map encTu), some (R.map PyData.int)] ∧ stAt pl i ≤ least ∧ (UB cs pl → least ≤ 2000 * (i : Int) + 1400) ∧ ∀ p ∈ (leanAt cs pl i).take j, leM (csAt cs pl p) (P.getD p []) c ≤ least, ⟨y2, y4, y5, r.st, rfl, rfl, by rw [est]; exact Int.le_refl _, (fun ub => by have := ub.2 r (List.mem_of_getElem? hr); omega), fun _ z => nomatch z⟩, fun j d ρ' g' hj ⟨y2, y4, y5, least, e1, e2, hs, hW, ha⟩ _ => ?_, fun ρ' g' ⟨y2, y4, y5, least, e1, e2, hs, hW, ha⟩ _ => ?_⟩
      · subst e1 e2
        obtain ⟨q, hq, rfl⟩ := at_map hj
        have lt : q < i := leanAt_lt (List.mem_of_getElem? hq)
        have mq : pl.getD q default ∈ pl := getD_mem (by omega)
        have ixq : atI (pl.map encR) (q : Int) = some (encR (pl.getD q default)) := ix_map encR (by omega)
        have mem : P.getD q [] ∈ P := by
          rw [List.getD_eq_getElem?_getD, List.getElem?_eq_getElem (by omega : q < P.length)]
          exact List.getElem_mem _
        have lq := hR _ mem
        have ixP : atI (P.map encTu) (q : Int) = some (encTu (P.getD q [])) := ix_map encTu (by omega)
        have gu : ∀ k, k < (P.getD q []).length → UB cs pl → (P.getD q []).getD k 0 ≤ 2000 * (i : Int) := fun k hk ub => hU ub _ mem _ (getD0_mem hk)
        have up1 : UB cs pl → (P.getD q []).getD c 0 ≤ 2000 * (i : Int) := gu c (by omega)
        have up2 : UB cs pl → (P.getD q []).getD (c - 1) 0 ≤ 2000 * (i : Int) := gu (c - 1) (by omega)
        have up3 : UB cs pl → (csAt cs pl q).us ≤ 400 ∧ (csAt cs pl q).lo ≤ 400 := fun ub => ub.1 _ (ok.get mq).1
        have tk : ∀ x ∈ (leanAt cs pl i).take (j + 1), x ∈ (leanAt cs pl i).take j ∨ x = q := fun x hx => by
          rw [List.take_add_one, hq] at hx
          rcases List.mem_append.mp hx with z | z
          · exact .inl z
          · exact .inr (by simpa using z)
        refine gg_name (gs_seq (gs_asgG (gd_slT (gd_dget (gd_var rfl ⟨_, rfl, gd_op (gd_op (gd_var rfl (gd_var rfl (opd_ixT ixq (gd_int (opd_ixT (d := .str (pl.getD q default).nm) rfl ⟨.inr (pl.getD q default).nm, _, rfl, lk_dictC ok mq, _, rfl, go_some (gd_int ⟨1, rfl, go_some (gd_int ⟨3, rfl, ?_⟩)⟩)⟩))))))⟩)))))
        have ecut : cutD [PyData.str (getC cs (pl.getD q default).nm).nm, .int (getC cs (pl.getD q default).nm).us, .int (getC cs (pl.getD q default).nm).lo, .tuple ((getC cs (pl.getD q default).nm).tm.map PyData.str), .tuple ((getC cs (pl.getD q default).nm).pl.map PyData.int), .int (getC cs (pl.getD q default).nm).fi] (some 1) (some 3) = [.int (csAt cs pl q).us, .int (csAt cs pl q).lo] := rfl
        rw [ecut]
        refine gg2 ?_
        refine gs_seq (gs_asgD (gd_cb (r := rMax2A) (gs_cons (gd_var rfl (gs_cons (gd_op (gd_op (gd_ixCel rfl (gd_var rfl ⟨(q : Int), _, _, rfl, rfl, ixP, gd_var rfl (opd_ixT (ix_int (show c < (P.getD q []).length by omega)) (gd_var rfl (opd_addI (gs_nil (opd_max2 ?_)))))⟩)))))))))
        rw [max_if2]
        refine gs_if (gt_test (gd_op (gd_var rfl (gd_int (opd_gt ⟨_, rfl, fun hb1 => ?_, fun hb1 => gs_next ⟨_, _, _, _, rfl, rfl, by omega, (fun ub => by have := hW ub; have := up1 ub; have := (up3 ub).1; omega), fun x hx => ?_⟩⟩)))))
        · have c0 : 0 < c := by
            have := of_decide_eq_true hb1
            omega
          refine gs_asgD (gd_cb (r := rMax2A) (gs_cons (gd_var rfl (gs_cons (gd_op (gd_op (gd_ixCel rfl (gd_var rfl ⟨(q : Int), _, _, rfl, rfl, ixP, gd_op (gd_var rfl (gd_int (opd_sub ?_)))⟩))))))))
          rw [show (c : Int) - 1 = ((c - 1 : Nat) : Int) by omega]
          refine opd_ixT (ix_int (show c - 1 < (P.getD q []).length by omega)) (gd_var rfl (opd_addI (gs_nil (opd_max2 ?_))))
          rw [max_if2]
          refine ⟨_, _, _, _, rfl, rfl, by omega, (fun ub => by have := hW ub; have := up1 ub; have := up2 ub; have := (up3 ub).1; have := (up3 ub).2; omega), fun x hx => ?_⟩
          rcases tk x hx with z | z
          · have := ha x z
            omega
          · subst z
            unfold leM
            rw [if_pos c0]
            omega
        · have c0 : ¬ 0 < c := by
            have := of_decide_eq_false hb1
            omega
          rcases tk x hx with z | z
          · have := ha x z
            omega
          · subst z
            unfold leM
            rw [if_neg c0]
            omega
      · subst e1 e2
        rw [List.length_map, List.take_length] at ha
        refine gs_app (ge_var rfl (fun z => nomatch z) ⟨2, _, rfl, rfl, gd_op (gd_var rfl (gd_op (gd_lst (gs_cons (gd_int (gs_cons (gd_int (gs_cons (gd_take rfl (gd_int ⟨50, b, rfl, rfl, hb, by decide, by decide, fun q b1 q0 q1 hb1 => ?_⟩))))))))))⟩)
        refine gs_nil ⟨by show 3 ≤ 100000; decide, gd_take rfl (gd_int ⟨3, b1, rfl, rfl, hb1, by decide, by decide, fun t b2 t0 t1 hb2 => opd_pick t0 (by show t < 3; exact t1) fun d hd => ?_⟩)⟩
        obtain ⟨ex, e, ex0, ex1⟩ : ∃ x : Int, d = .int x ∧ 0 ≤ x ∧ x < 50 := by
          have hd' : d = .int 0 ∨ d = .int 0 ∨ d = .int q := by simpa using hd
          rcases hd' with rfl | rfl | rfl
          · exact ⟨0, rfl, by decide, by decide⟩
          · exact ⟨0, rfl, by decide, by decide⟩
          · exact ⟨q, rfl, q0, q1⟩
        subst e
        refine opd_addI ⟨_, rfl, by rw [List.length_map]; omega, _, _, _, _, _, b2, R ++ [least + ex], rfl, ?_, hb2, by rw [List.length_append, hl]; rfl, (fun ub y hy => by
          rcases List.mem_append.mp hy with z | z
          · exact hV ub y z
          · rw [List.mem_singleton] at z; have := hW ub; omega), fun c' hc' => ?_⟩
        · show [some b2, some (P.map encTu), some (R.map PyData.int ++ [.int (least + ex)])] = _
          rw [List.map_append]
          rfl
        · by_cases z : c' < c
          · rw [getD_app (y := 0) (by omega)]
            exact hc2 c' z
          · have : c' = R.length := by omega
            rw [this, getD_end]
            refine ⟨by omega, fun p hp => ?_⟩
            have := ha p hp
            rw [hl]
            omega
    · subst e1 e2
      rw [rngD_len] at hl hc2
      refine gs_app (ge_var rfl (fun z => nomatch z) ⟨1, _, rfl, rfl, gd_cb (r := rTupleA K) (gs_cons (gd_give (ge_var rfl (fun z => nomatch z) ⟨2, _, rfl, by show 2 ≤ 2; decide, rfl, gs_nil (opd_tupleL ⟨_, rfl, ?_, ?_⟩)⟩)))⟩)
      · rw [List.length_map]; omega
      · refine ⟨_, _, _, _, _, _, _, _, b, P ++ [R], rfl, ?_, hb, by rw [List.length_append, hP]; rfl, fun Q hQ => ?_, (fun ub Q hQ y hy => by
          rcases List.mem_append.mp hQ with z | z
          · have := hU ub Q z y hy; omega
          · rw [List.mem_singleton] at z; rw [z] at hy; have := hV ub y hy; omega), fun k hk => ?_⟩
        · show [some b, some (P.map encTu ++ [encTu R])] = _
          rw [List.map_append]
          rfl
        · rcases List.mem_append.mp hQ with z | z
          · exact hR Q z
          · rw [List.mem_singleton] at z; rw [z]; exact hl
        · intro c hcm
          by_cases z : k < i
          · obtain ⟨a1, a2⟩ := hO k z c hcm
            rw [getD_app (y := []) (by omega)]
            refine ⟨a1, fun q hq => ?_⟩
            have lt := leanAt_lt hq
            rw [getD_app (y := []) (by omega)]
            exact a2 q hq
          · have : k = P.length := by omega
            have ki : k = i := by omega
            rw [this, getD_end, ← this, ki]
            obtain ⟨a1, a2⟩ := hc2 c (by omega)
            refine ⟨a1, fun q hq => ?_⟩
            have lt := leanAt_lt hq
            rw [getD_app (y := []) (by omega)]
            exact a2 q hq
  · subst e1 e2
    rw [enum_len, List.length_map] at hP hO hU
    refine gs_ret (gd_cb (r := rTupleA K) (gs_cons (gd_give (ge_var rfl (fun z => nomatch z) ⟨1, _, rfl, Nat.le_refl 1, rfl, gs_nil (opd_tupleL ⟨_, rfl, p P b ⟨hP, hR, hO⟩ hU hb⟩)⟩))))
def t_law_within_day (K : PySem.W.Frag) (wd : PySem.World) : TS := (tSeq (tAsg (tCB (rDictP K) (tCons (tLc (iTup K (tVar 1)) (gName 13) tYes (tTup (tCons (tOp (rIx K) (tVar 13) (tC (.int 0))) (tCons (tVar 13) tNil))) [13]) tNil)) (gName 4)) (tSeq (tAsg (tCall (spOf K R_law_mixed) [] E0 (tCons (tVar 0) (tCons (tLstRg (tRg1 (tCB (rLenA K) (tCons (tVar 2) tNil)))) tNil))) (gName 5)) (tSeq (tAsg (tSl (rSlL K) (tCB (rListA K) (tCons (tVar 5) tNil)) tNoPart (tPart (tVar 3))) (gName 6)) (tSeq (tAsg (tLst tNil) (gName 7)) (tSeq (tFor (iEnum1 K (tCons (tVar 2) tNil)) (gTup K 2 (gCons (gName 8) (gCons (gName 9) gNil))) (tSeq (tAsg (tSl (rSlA K) (tDGet (tVar 4) (tOp (rIx K) (tVar 9) (tC (.int 1)))) (tPart (tC (.int 1))) (tPart (tC (.int 3)))) (gTup K 2 (gCons (gName 11) (gCons (gName 12) gNil)))) (tSeq (tAsg (tIf (tTest (tOp (rIn K false) (tVar 8) (tVar 6))) (tVar 12) (tVar 11)) (gName 10)) (tDrop (tBM K "list" rAppend (tVar 7) (tCons (tOp (rIx K) (tLst (tCons (tVar 10) (tCons (tVar 10) (tCons (tOp (rAddA K) (tC (.int 1)) (tCall (spOf K R_law_take) [] E0 (tCons (tVar 0) (tCons (tVar 10) tNil)))) tNil)))) (tCall (spOf K R_law_take) [] E0 (tCons (tVar 0) (tCons (tC (.int 3)) tNil)))) tNil)))))) (tRet (tCB (rTupleA K) (tCons (tVar 7) tNil))))))))
def unN (d : D) : Nat := (unI d).toNat
theorem perm_nats {es : List D} {xs : List Nat} (h : es.Perm (xs.map encI)) : ∃ ys : List Nat, es = ys.map encI ∧ ys.Perm xs := by
  have e0 : ∀ x : Nat, unN (encI x) = x := fun x => by show ((x : Int)).toNat = x; omega
  refine ⟨es.map unN, ?_, ?_⟩
  · rw [List.map_map]
    conv => lhs; rw [← List.map_id es]
    refine List.map_congr_left fun e he => ?_
    obtain ⟨x, _, rfl⟩ := List.mem_map.mp (h.mem_iff.mp he)
    show encI x = encI (unN (encI x))
    rw [e0]
  · have := h.map unN
    rw [List.map_map] at this
    have e : (unN ∘ encI) = id := funext e0
    rw [e, List.map_id] at this
    exact this
theorem go_law_within_day (ss : List SV) (g : List Cell) (post : D → List Cell → Prop) (h : R_law_within_day ss g post) : GoS K g.length (t_law_within_day K wd) (ss ++ List.replicate (14 - ss.length) .no) g (KF g.length post) := by
  obtain ⟨b, cs, pl, m, rfl, rfl, hb, ok, hcs, p⟩ := h
  unfold t_law_within_day
  have l8 := ok.lp
  refine gs_seq (gs_asgD (gd_cb (r := rDictP K) (gs_cons (gd_mapT encC encCt mg_name (ij_name (by simp)) (gi_tup (gd_var rfl ⟨_, rfl, cs, rfl, by have := ok.lc; omega, fun i c hc => gg_name ?_, ?_⟩))))))
  · (repeat (walk_at "g"))
    refine opd_ixT (d := .str c.nm) rfl ?_
    (repeat (walk_at "g"))
    exact ⟨by show 2 ≤ 100000; decide, rfl, rfl⟩
  rw [enc_pr]
  refine gs_nil (opd_dict ?_)
  refine gs_seq (gs_asgD (gd_bag rfl (gs_cons (gd_lstRg (gd_cb (r := rLenA K) (gs_cons (gd_var rfl (gs_nil (opd_lenT ⟨(pl.map encR).length, rfl, by rw [List.length_map]; omega, ?_⟩)))))))))
  rw [List.length_map]
  refine gs_nil ⟨b, rfl, b, _, rfl, rfl, hb, by rw [List.length_map, List.length_range]; omega, fun es b1 pm hb1 => ⟨b1, rfl, ?_⟩⟩
  obtain ⟨ys, rfl, py⟩ := perm_nats pm
  refine gs_seq (gs_asgD (gd_sl (gd_cb (r := rListA K) (gs_cons (gd_var rfl (gs_nil (opd_listE (.inr rfl) ⟨_, rfl, go_none (go_some (gd_var rfl ⟨_, rfl, ?_⟩))⟩)))))))
  rw [cut_take, ← List.map_take]
  have lS : (ys.take m).length ≤ m := by rw [List.length_take]; omega
  generalize ys.take m = S at lS
  refine gs_seq (gs_asg (ge_lstC (gs_nil ⟨by decide, ?_⟩)))
  refine gs_seq (gs_for (gi_enum (gs_cons (gd_var rfl (gs_nil ⟨_, _, rfl, .inr rfl, ?_⟩)))))
  refine ⟨fun i ρ g => ∃ (x8 x9 y0 y1 y2 : SV) (b : List D) (M : List Int), ρ = [.c 0, .d (encCs cs), .d (encP pl), .d (.int (m : Int)), .d (dct (dictC cs)), .d (.tuple (ys.map encI)), .d (.list (S.map encI)), .c 1, x8, x9, y0, y1, y2, .no] ∧ g = [some b, some (M.map PyData.int)] ∧ Bag b ∧ M.length = i ∧ ∀ k, k < i → M.getD k 0 ≤ minAt cs pl S k, ⟨.no, .no, .no, .no, .no, b1, [], rfl, rfl, hb1, rfl, fun k hk => absurd hk (by omega)⟩, fun i d ρ' g' hi ⟨x8, x9, y0, y1, y2, b, M, e1, e2, hb, hl, hM⟩ _ => ?_, fun ρ' g' ⟨x8, x9, y0, y1, y2, b, M, e1, e2, hb, hl, hM⟩ _ => ?_⟩
  · subst e1 e2
    obtain ⟨e, he, rfl⟩ := enum_get hi
    obtain ⟨r, hr, rfl⟩ := at_map he
    have li : i < pl.length := (List.getElem?_eq_some_iff.mp hr).1
    have mr : r ∈ pl := List.mem_of_getElem? hr
    have er : pl.getD i default = r := by rw [List.getD_eq_getElem?_getD, hr]; rfl
    have ecs : csAt cs pl i = getC cs r.nm := by unfold csAt; rw [er]
    obtain ⟨c1, c2, c3⟩ := hcs _ (ok.get mr).1
    refine gg2 (gs_seq (gs_asgG (gd_slT (gd_dget (gd_var rfl ⟨_, rfl, gd_op (gd_var rfl (gd_int (opd_ixT (d := .str r.nm) rfl ⟨.inr r.nm, _, rfl, lk_dictC ok mr, _, rfl, go_some (gd_int ⟨1, rfl, go_some (gd_int ⟨3, rfl, ?_⟩)⟩)⟩)))⟩)))))
    have ecut : cutD [PyData.str (getC cs r.nm).nm, .int (getC cs r.nm).us, .int (getC cs r.nm).lo, .tuple ((getC cs r.nm).tm.map PyData.str), .tuple ((getC cs r.nm).pl.map PyData.int), .int (getC cs r.nm).fi] (some 1) (some 3) = [.int (getC cs r.nm).us, .int (getC cs r.nm).lo] := rfl
    rw [ecut]
    refine gg2 ?_
    have rest : ∀ most : Int, most = minAt cs pl S i → 1 ≤ most → most ≤ 400 → ∀ {κ : Ks}, (∀ (b : List D) (v : Int), Bag b → v ≤ most → κ.nx [.c 0, .d (encCs cs), .d (encP pl), .d (.int (m : Int)), .d (dct (dictC cs)), .d (.tuple (ys.map encI)), .d (.list (S.map encI)), .c 1, .d (.int (i : Int)), .d (encR r), .d (.int most), .d (.int (getC cs r.nm).us), .d (.int (getC cs r.nm).lo), .no] [some b, some (M.map PyData.int ++ [.int v])]) → GoS K 2 (tDrop (tBM K "list" rAppend (tVar 7) (tCons (tOp (rIx K) (tLst (tCons (tVar 10) (tCons (tVar 10) (tCons (tOp (rAddA K) (tC (.int 1)) (tCall (spOf K R_law_take) [] E0 (tCons (tVar 0) (tCons (tVar 10) tNil)))) tNil)))) (tCall (spOf K R_law_take) [] E0 (tCons (tVar 0) (tCons (tC (.int 3)) tNil)))) tNil))) [.c 0, .d (encCs cs), .d (encP pl), .d (.int (m : Int)), .d (dct (dictC cs)), .d (.tuple (ys.map encI)), .d (.list (S.map encI)), .c 1, .d (.int (i : Int)), .d (encR r), .d (.int most), .d (.int (getC cs r.nm).us), .d (.int (getC cs r.nm).lo), .no] [some b, some (M.map PyData.int)] κ := fun most _ h1 h2 κ pp => by
      refine gs_app (ge_var rfl (fun z => nomatch z) ⟨1, _, rfl, rfl, gd_op (gd_lst (gs_cons (gd_var rfl (gs_cons (gd_var rfl (gs_cons (gd_op (gd_int (gd_take rfl (gd_var rfl ⟨most, b, rfl, rfl, hb, h1, by omega, fun q b1 q0 q1 hb1 => ?_⟩))))))))))⟩)
      refine opd_addI (gs_nil ⟨by show 3 ≤ 100000; decide, gd_take rfl (gd_int ⟨3, b1, rfl, rfl, hb1, by decide, by decide, fun t b2 t0 t1 hb2 => opd_pick t0 (by show t < 3; exact t1) fun d hd => ?_⟩)⟩)
      obtain ⟨v, e, hv⟩ : ∃ v : Int, d = .int v ∧ v ≤ most := by
        have hd' : d = .int most ∨ d = .int most ∨ d = .int (1 + q) := by simpa using hd
        rcases hd' with rfl | rfl | rfl
        · exact ⟨_, rfl, Int.le_refl _⟩
        · exact ⟨_, rfl, Int.le_refl _⟩
        · exact ⟨_, rfl, by omega⟩
      subst e
      exact ⟨_, rfl, by rw [List.length_map]; omega, pp b2 v hb2 hv⟩
    have done : ∀ most : Int, most = minAt cs pl S i → ∀ (b : List D) (v : Int), Bag b → v ≤ most → ∃ (x8 x9 y0 y1 y2 : SV) (b' : List D) (M' : List Int), cutS 2 [SV.c 0, .d (encCs cs), .d (encP pl), .d (.int (m : Int)), .d (dct (dictC cs)), .d (.tuple (ys.map encI)), .d (.list (S.map encI)), .c 1, .d (.int (i : Int)), .d (encR r), .d (.int most), .d (.int (getC cs r.nm).us), .d (.int (getC cs r.nm).lo), .no] = [.c 0, .d (encCs cs), .d (encP pl), .d (.int (m : Int)), .d (dct (dictC cs)), .d (.tuple (ys.map encI)), .d (.list (S.map encI)), .c 1, x8, x9, y0, y1, y2, .no] ∧ ([some b, some (M.map PyData.int ++ [.int v])] : List Cell).take 2 = [some b', some (M'.map PyData.int)] ∧ Bag b' ∧ M'.length = i + 1 ∧ ∀ k, k < i + 1 → M'.getD k 0 ≤ minAt cs pl S k := fun most em b v hb hv => by
      refine ⟨_, _, _, _, _, b, M ++ [v], rfl, ?_, hb, by rw [List.length_append, hl]; rfl, fun k hk => ?_⟩
      · rw [List.map_append]
        rfl
      · by_cases z : k < i
        · rw [getD_app (y := 0) (by omega)]
          exact hM k z
        · have : k = M.length := by omega
          have ki : k = i := by omega
          rw [this, getD_end, ← this, ki, ← em]
          exact hv
    refine gs_seq (gs_asgD (gd_if (gt_test (gd_op (gd_var rfl (gd_var rfl (opd_inL rfl (flat_ints S) ?_)))))))
    rw [any_ints]
    refine ⟨_, rfl, fun hb1 => gd_var rfl ?_, fun hb1 => gd_var rfl ?_⟩
    · have hin : i ∈ S := of_decide_eq_true (show decide (i ∈ S) = true from hb1)
      have em : (getC cs r.nm).lo = minAt cs pl S i := by unfold minAt; rw [if_pos hin, ecs]
      exact rest _ em (by omega) c3 fun b v hb hv => done _ em b v hb hv
    · have hin : ¬ i ∈ S := of_decide_eq_false (show decide (i ∈ S) = false from hb1)
      have em : (getC cs r.nm).us = minAt cs pl S i := by unfold minAt; rw [if_neg hin, ecs]
      exact rest _ em c1 (by omega) fun b v hb hv => done _ em b v hb hv
  · subst e1 e2
    rw [enum_len, List.length_map] at hl hM
    refine gs_ret (gd_cb (r := rTupleA K) (gs_cons (gd_give (ge_var rfl (fun z => nomatch z) ⟨1, _, rfl, Nat.le_refl 1, rfl, gs_nil (opd_tupleL ⟨_, rfl, p M b ⟨hl, S, lS, hM⟩ hb⟩)⟩))))
end
end Go
namespace Go
open PySem PySem.Spec PyProof.Rows L2 SetMix ZipE
open Evl (Ex)
/-! ### bools among numbers, texts that are cut and joined -/
def rAddBI : R2 := fun x y H Q => ∃ b j, x = .bl b ∧ y = .int j ∧ Q (.int ((if b = true then (1 : Int) else 0) + j)) H
def rSubBI : R2 := fun x y H Q => ∃ b j, x = .bl b ∧ y = .int j ∧ Q (.int ((if b = true then (1 : Int) else 0) - j)) H
def rNegBI : V → Hp → VK → Prop := fun x H Q => ∃ b, x = .bl b ∧ Q (.int (-(if b = true then (1 : Int) else 0))) H
theorem gives_neg_bool (b : Bool) : Gives (Builtin.«int.__neg__» ⟨[.bool b], []⟩) (.int (-(if b = true then (1 : Int) else 0))) := by cases b <;> exact .of_eq rfl
section
variable {X : Cx}
theorem op_addBI : OpR X (binaryOp .Add) rAddBI := by
  intro pins s σ H x y v u Q I rx ry h
  obtain ⟨b, j, rfl, rfl, q⟩ := h
  cases rx
  obtain ⟨t, rfl⟩ := ry
  exact PySem.IntBool.add_bool_int ⟨.int _, H, I.tok _, ⟨_, rfl⟩, q⟩
theorem op_subBI : OpR X (binaryOp .Sub) rSubBI := by
  intro pins s σ H x y v u Q I rx ry h
  obtain ⟨b, j, rfl, rfl, q⟩ := h
  cases rx
  obtain ⟨t, rfl⟩ := ry
  exact PySem.IntBool.sub_bool_int ⟨.int _, H, I.tok _, ⟨_, rfl⟩, q⟩
theorem un_negBI : UnR X (unaryOp .USub) rNegBI := by
  intro pins s σ H x v Q I rx h
  obtain ⟨b, rfl, q⟩ := h
  cases rx
  exact unaryOp_gives (op := .USub) (PyProof.Rows.typeIs_bool s b) rfl F.slot_bool_neg F.entry_int_neg (F.args_int_neg_1 _) (gives_neg_bool b) ⟨.int _, H, I.tok _, ⟨_, rfl⟩, q⟩
def rCatS : R2 := fun x y H Q => ∃ i j, x = .str i ∧ y = .str j ∧ i.length + j.length ≤ sizeLine ∧ Q (.str (i ++ j)) H
def rAddB (K : PySem.W.Frag) : R2 := fun x y H Q => rAddA K x y H Q ∨ (fun x y H Q => rAddBI x y H Q ∨ rCatS x y H Q) x y H Q
theorem op_addB : OpR X (binaryOp .Add) (rAddB X.K) := OpR.or op_addA (OpR.or op_addBI op_add_str)
def rSubB : R2 := fun x y H Q => rI0 (fun i j => V.int (i - j)) x y H Q ∨ rSubBI x y H Q
theorem op_subB : OpR X (binaryOp .Sub) rSubB := OpR.or op_sub op_subBI
def rNegB : V → Hp → VK → Prop := fun x H Q => rU (fun i => .int (-i)) x H Q ∨ rNegBI x H Q
theorem un_negB : UnR X (unaryOp .USub) rNegB := by
  intro pins s σ H x v Q I rx h
  rcases h with h | h
  · exact un_neg pins s σ H x v Q I rx h
  · exact un_negBI pins s σ H x v Q I rx h
def rStrI : List V → Hp → VK → Prop := fun xs H Q => (∃ i, xs = [.int i] ∧ i.natAbs.log2 < 1920 ∧ Q (.str (toString i)) H) ∨ ∃ b, xs = [.bl b] ∧ Q (.str (if b = true then "True" else "False")) H
theorem call_strI : CallR X (.type "str") rStrI := by
  intro pins s σ H xs us Q I r h
  rcases h with h | ⟨b, rfl, q⟩
  · exact call_str_int pins s σ H xs us Q I r h
  · obtain ⟨u, rfl, r1⟩ := vals1 r
    cases r1
    exact PySem.P.str_of_bool ⟨.str _, H, I.tok _, ⟨_, by cases b <;> rfl⟩, q⟩
def rUpper : V → List V → Hp → VK → Prop := fun x xs H Q => ∃ a, x = .str a ∧ xs = [] ∧ a.length ≤ 5592405 ∧ Q (.str (Txt.upper a)) H
end
section
variable {K : PySem.W.Frag} {wd : PySem.World} {n : Nat} {ρ ts : List SV} {g : List Cell} {κ : Ks}
def asI : D → Int
  | .int i => i
  | .bool b => if b = true then 1 else 0
  | _ => 0
theorem opd_addBL {ds es : List D} {post : D → Prop} (hz : ds.length + es.length ≤ 100000) (p : post (.list (ds ++ es))) : OpD K (un2 (rAddB K)) [.list ds, .list es] post := OpD.or1 (opd_addL hz p)
theorem opd_addBN {d : D} {j : Int} {post : D → Prop} (hd : (∃ i, d = .int i) ∨ ∃ b, d = .bool b) (p : post (.int (asI d + j))) : OpD K (un2 (rAddB K)) [d, .int j] post := by
  rcases hd with ⟨i, rfl⟩ | ⟨b, rfl⟩
  · exact OpD.or1 (opd_addI p)
  · refine OpD.or2 (OpD.or1 fun I H ws ex hw Q q => ?_)
    obtain ⟨v, w, rfl, i1, i2⟩ := all2 hw
    cases is_bl i1
    cases is_int i2
    exact ⟨_, _, rfl, b, j, rfl, rfl, out0 ex q (.int _) p⟩
theorem opd_addBS {x y : Str} {post : D → Prop} (hz : x.length + y.length ≤ 1000000) (p : post (.str (x ++ y))) : OpD K (un2 (rAddB K)) [.str x, .str y] post := by
  refine OpD.or2 (OpD.or2 fun I H ws ex hw Q q => ?_)
  obtain ⟨v, w, rfl, i1, i2⟩ := all2 hw
  cases is_str i1
  cases is_str i2
  exact ⟨_, _, rfl, x, y, rfl, rfl, by rw [sizeLine_eq]; omega, out0 ex q (.str _) p⟩
theorem opd_subBN {d : D} {j : Int} {post : D → Prop} (hd : (∃ i, d = .int i) ∨ ∃ b, d = .bool b) (p : post (.int (asI d - j))) : OpD K (un2 rSubB) [d, .int j] post := by
  rcases hd with ⟨i, rfl⟩ | ⟨b, rfl⟩
  · exact OpD.or1 (opd_sub p)
  · refine OpD.or2 fun I H ws ex hw Q q => ?_
    obtain ⟨v, w, rfl, i1, i2⟩ := all2 hw
    cases is_bl i1
    cases is_int i2
    exact ⟨_, _, rfl, b, j, rfl, rfl, out0 ex q (.int _) p⟩
theorem opd_negB {d : D} {post : D → Prop} (hd : (∃ i, d = .int i) ∨ ∃ b, d = .bool b) (p : post (.int (-asI d))) : OpD K (un1 rNegB) [d] post := fun I H ws ex hw Q q => by
  obtain ⟨v, rfl, ii⟩ := all1 hw
  rcases hd with ⟨i, rfl⟩ | ⟨b, rfl⟩
  · cases is_int ii
    exact ⟨_, rfl, .inl ⟨i, rfl, out0 ex q (.int _) p⟩⟩
  · cases is_bl ii
    exact ⟨_, rfl, .inr ⟨b, rfl, out0 ex q (.int _) p⟩⟩
def txI : D → Str
  | .int i => toString i
  | .bool b => if b = true then "True" else "False"
  | _ => ""
theorem opd_strI {d : D} {post : D → Prop} (hd : (∃ i : Int, d = .int i ∧ i.natAbs.log2 < 1920) ∨ ∃ b, d = .bool b) (p : post (.str (txI d))) : OpD K rStrI [d] post := fun I H ws ex hw Q q => by
  obtain ⟨v, rfl, ii⟩ := all1 hw
  rcases hd with ⟨i, rfl, hi⟩ | ⟨b, rfl⟩
  · cases is_int ii
    exact .inl ⟨i, rfl, hi, out0 ex q (.str _) p⟩
  · cases is_bl ii
    exact .inr ⟨b, rfl, out0 ex q (.str _) p⟩
theorem gd_slS {te : TE} {tl th : TO} {post : D → List Cell → Prop} (h : GoD K n te ρ ts g fun d g1 => ∃ x : Str, d = .str x ∧ x.length ≤ 1000000 ∧ GoO K n tl ρ (.d d :: ts) g1 fun lo g2 => GoO K n th ρ (.d d :: ts) g2 fun hi g3 => post (.str (L2.cutS x lo hi)) g3) : GoD K n (tSl rSlS te tl th) ρ ts g post := by
  intro I0 H0 bs σ vs H hn w Q q
  refine h I0 H0 bs σ vs H hn w _ fun v H1 s g1 w1 ⟨d, e, x, e2, hx, p1⟩ => ?_
  subst e e2
  refine p1 I0 H0 bs σ _ H1 hn w1 _ fun lo H2 g2 w2 p2 => p2 I0 H0 bs σ _ H2 hn w2 _ fun hi H3 g3 ⟨I, ls, w3⟩ p3 => ?_
  obtain ⟨w4, r⟩ := w3.pop
  cases r with
  | d i =>
    cases is_str i
    exact ⟨x, rfl, by rw [sizeLine_eq]; omega, q _ H3 (.d (.str _)) g3 ⟨I, ls, w4.push (.d (.str _))⟩ ⟨_, rfl, p3⟩⟩
theorem gd_upper {te : TE} {post : D → List Cell → Prop} (h : GoD K n te ρ ts g fun d g1 => ∃ x : Str, d = .str x ∧ x.length ≤ 1000000 ∧ post (.str (Txt.upper x)) g1) : GoD K n (tM0 rUpper te) ρ ts g post := by
  intro I0 H0 bs σ vs H hn w Q q
  refine h I0 H0 bs σ vs H hn w _ fun v H1 s g1 ⟨I, ls, w1⟩ ⟨d, e, x, e2, hx, p1⟩ => ?_
  subst e e2
  obtain ⟨w4, r⟩ := w1.pop
  cases r with
  | d i =>
    cases is_str i
    exact ⟨⟨x, rfl⟩, x, rfl, rfl, by omega, q _ H1 (.d (.str _)) g1 ⟨I, ls, w4.push (.d (.str _))⟩ ⟨_, rfl, p1⟩⟩
/-- isinstance(x, (tuple, list)) -/
def seqD : D → Bool
  | .list _ => true
  | .tuple _ => true
  | _ => false
theorem kitSeq (K : PySem.W.Frag) (d : D) : PySem.W.kitAny K (.type (tyN d)) [.type "tuple", .type "list"] = some (seqD d) := by
  cases d <;> rfl
theorem gd_isiT {i : Nat} {d : D} {post : D → List Cell → Prop} (hi : ρ[i]? = some (.d d)) (p : post (.bool (seqD d)) g) : GoD K n (tCB (rIsiT K) (tCons (tVar i) (tCons (tTup (tCons (tC (.ty "tuple")) (tCons (tC (.ty "list")) tNil))) tNil))) ρ ts g post := by
  intro I0 H0 bs σ vs H hn ⟨I, ls, w⟩ Q q
  obtain ⟨o, e, r⟩ := Paired.get w.rs hi
  cases r with
  | @d v _ ii =>
    refine ⟨v, e, by show 2 ≤ sizeLine; rw [sizeLine_eq]; decide, fun a ha => ?_⟩
    have ia : I a = none := Evl.fresh_back w.fr.ih ha
    have ex : Ex I (upd H a (.tup [.ty "tuple", .ty "list"])) := fun b o e => by rw [upd_ne (ne_of_none (w.fr.ih b o e) ha)]; exact w.fr.ih b o e
    refine ⟨v, a, [.ty "tuple", .ty "list"], .type (tyN d), [.type "tuple", .type "list"], seqD d, rfl, upd_same, .cons (.ty _) (.cons (.ty _) .nil), is_ty ex ii, kitSeq K d, ?_⟩
    have f : Fr [] I H I (upd H a (.tup [.ty "tuple", .ty "list"])) := ⟨Ex.refl I, ex, fun b o _ e => by rw [upd_ne (ne_of_none e ha)]; exact e, fun b e => by
      cases z : H b with
      | none => exact absurd z e
      | some o => rw [upd_ne (ne_of_none z ha), z]; exact (fun y => (nomatch y)), fun b _ e => e⟩
    exact q _ _ (.d (.bool _)) g ⟨I, ls, (w.step f).push (.d (.bl _))⟩ ⟨_, rfl, p⟩
end
end Go
namespace Go
open PySem PySem.Spec PyProof.Rows L2 SetMix ZipE
open Evl (Ex)
local macro_rules | `(tactic| walk_at "g") => `(tactic| first
  | ((with_reducible refine gd_var (d := ?dd) ?hv ?_); (case hv => exact rfl))
  | ((with_reducible refine gd_ixScr (ns := ?ns) ?hv ?_); (case hv => exact rfl))
  | ((with_reducible refine gd_ixCel (j := ?jj) ?hv ?_); (case hv => exact rfl))
  | ((with_reducible refine gd_lenScr (ns := ?ns) ?hv ?_); (case hv => exact rfl))
  | with_reducible first
    | refine gs_seq ?_ | refine gs_next ?_ | refine gs_ret ?_ | refine gs_asgD ?_ | refine gs_if ?_
    | refine gt_test ?_ | refine gt_B ?_ | refine gt_and ?_ | refine gt_or ?_ | refine gt_not ?_ | refine gt_yes ?_
    | refine gd_int ?_ | refine gd_str ?_ | refine gd_bl ?_ | refine gd_non ?_
    | refine gd_op ?_ | refine gd_tup ?_ | refine gd_lst ?_
    | refine gd_cb (r := rLenA _) ?_ | refine gd_cb (r := rTupleA _) ?_ | refine gd_cb (r := rAbsA) ?_ | refine gd_cb (r := rMax2A) ?_ | refine gd_cb (r := rMin2A) ?_ | refine gd_cb (r := rIntA) ?_ | refine gd_cb (r := rAny _) ?_ | refine gd_cb (r := rAll _) ?_ | refine gd_cb (r := rDictP _) ?_ | refine gd_cb (r := rMax _) ?_ | refine gd_cb (r := rMin _) ?_
    | refine gs_cons ?_ | refine gs_nil ?_ | refine gd_dget ?_
    | refine gd_and ?_ | refine gd_or ?_ | refine gd_not ?_
    | refine opd_addI ?_ | refine opd_sub ?_ | refine opd_lt ?_ | refine opd_le ?_ | refine opd_gt ?_ | refine opd_ge ?_
    | refine opd_lenL ?_ | refine opd_lenT ?_ | refine opd_tupleL ?_ | refine opd_tupleT ?_ | refine opd_max2 ?_ | refine opd_min2 ?_ | refine opd_abs ?_ | refine opd_intB ?_
    | refine Exists.intro _ (And.intro rfl ?_))
/-! ### one's own list of a thing; two items changed about -/
section
variable {K : PySem.W.Frag} {wd : PySem.World} {n : Nat} {ρ ts : List SV} {g : List Cell} {κ : Ks}
theorem ge_listC {i : Nat} {d : D} {ds : List D} {post : PostE} (hi : ρ[i]? = some (.d d)) (hd : d = .list ds ∨ d = .tuple ds) (p : post (.c g.length) (g ++ [some ds])) : GoE K n (tCB (rListA K) (tCons (tVar i) tNil)) ρ ts g post := by
  intro I0 H0 bs σ vs H hn ⟨I, ls, w2⟩ Q q
  obtain ⟨o, e, r⟩ := Paired.get w2.rs hi
  cases r with
  | @d v _ ii =>
    have hw : ∃ a ws, v = .ref a ∧ (SqL K H a ws ∨ SqT K H a ws) ∧ IsAll K I ws ds := by
      rcases hd with rfl | rfl
      · obtain ⟨a, xs, rfl, hs, ha⟩ := is_list ii
        exact ⟨a, xs, rfl, .inl (.inl (Evl.ex_rd w2.fr.ih hs)), ha⟩
      · obtain ⟨a, xs, rfl, hs, ha⟩ := is_tup ii
        exact ⟨a, xs, rfl, .inr (Evl.ex_t w2.fr.ih hs), ha⟩
    obtain ⟨a0, ws, rfl, hs, i⟩ := hw
    refine ⟨_, e, a0, ws, rfl, hs, fun a ha => ?_⟩
    have ia : I a = none := Evl.fresh_back w2.fr.ih ha
    have h0a : H0 a = none := by
      cases z : H0 a with
      | none => rfl
      | some o => exact absurd ha (w2.fr.dm a (by rw [z]; exact fun y => nomatch y))
    have na : a ∉ bs ++ ls := fun m => w2.ce.in_ a m ha
    have hj : (bs ++ (ls ++ [a]))[g.length]? = some a := by
      rw [← List.append_assoc, ← w2.ce.len, List.getElem?_append_right (Nat.le_refl _), Nat.sub_self]
      rfl
    have up : ∀ (j : Nat) p, (bs ++ ls)[j]? = some p → (bs ++ (ls ++ [a]))[j]? = some p := fun j p e => by
      rw [← List.append_assoc, List.getElem?_append_left (List.getElem?_eq_some_iff.mp e).1]
      exact e
    have hx : ∀ b o, H b = some o → upd H a (.lst ws) b = some o := fun b o e => by
      rw [upd_ne (ne_of_none e ha)]; exact e
    refine q (.ref a) _ (.c g.length) _ ⟨I, ls ++ [a], ⟨⟨w2.fr.ii, fun b o e => hx b o (w2.fr.ih b o e), fun b o m e => hx b o (w2.fr.fr b o m e), fun b e => ?_, w2.fr.nw⟩, ?_, fun b m => ?_, Paired.imp (fun _ _ r => r.mono (Ex.refl I) up) w2.rs, .cons (.c hj) (Paired.imp (fun _ _ r => r.mono (Ex.refl I) up) w2.rv)⟩⟩ p
    · cases z : H b with
      | none => exact absurd z (w2.fr.dm b e)
      | some o => rw [hx b o z]; exact fun y => nomatch y
    · rw [← List.append_assoc]
      exact Cells.snoc ia upd_same i na (w2.ce.keep (Ex.refl I) (fun b _ o e => hx b o e) fun _ _ e => e)
    · rcases List.mem_append.mp m with m | m
      · exact w2.lo b m
      · rw [List.mem_singleton] at m
        rw [m]; exact h0a
theorem gs_swap {r a b j : Nat} {ds : List D} {x y : Int} {kx ky : Nat} {dx dy : D} (hr : ρ[r]? = some (.c j)) (ha : ρ[a]? = some (.d (.int x))) (hb : ρ[b]? = some (.d (.int y))) (hg : g[j]? = some (some ds)) (atx : atI ds x = some dx) (aty : atI ds y = some dy) (hkx : ixN ds.length x = some kx) (hky : ixN ds.length y = some ky) (h : κ.nx ρ (g.set j (some ((ds.set kx dy).set ky dx)))) :
    GoS K n (tAsg (tTup (tCons (tOp (rIx K) (tVar r) (tVar b)) (tCons (tOp (rIx K) (tVar r) (tVar a)) tNil))) (gTup K 2 (gCons (gSub (tVar r) (tVar a) rSetL) (gCons (gSub (tVar r) (tVar b) rSetL) gNil)))) ρ g κ := by
  intro I0 H0 bs σ H E hn w m
  have hd : GoD K n (tTup (tCons (tOp (rIx K) (tVar r) (tVar b)) (tCons (tOp (rIx K) (tVar r) (tVar a)) tNil))) ρ [] g fun d g1 => d = .tuple [dy, dx] ∧ g1 = g :=
    gd_tup (gs_cons (gd_ixCel hr (gd_var hb ⟨y, ds, dy, rfl, hg, aty, gs_cons (gd_ixCel hr (gd_var ha ⟨x, ds, dx, rfl, hg, atx, gs_nil ⟨by simp, rfl, rfl⟩⟩))⟩)))
  refine hd I0 H0 bs σ [] H hn w _ fun v H1 s g1 ⟨I, ls, w1⟩ ⟨d, e, e2, e3⟩ => ?_
  subst e e2 e3
  obtain ⟨w2, r1⟩ := w1.pop
  cases r1 with
  | d i1 =>
    obtain ⟨t, xs, rfl, hs, ha2⟩ := is_tup i1
    obtain ⟨vy, vx, rfl, iy, ix⟩ := all2 ha2
    obtain ⟨oa, ea, ra⟩ := Paired.get w2.rs ha
    obtain ⟨ob, eb, rb⟩ := Paired.get w2.rs hb
    obtain ⟨o, eo, ro⟩ := Paired.get w2.rs hr
    cases ra with
    | d ii =>
      cases is_int ii
      cases rb with
      | d ij =>
        cases is_int ij
        cases ro with
        | @c p _ hp =>
          obtain ⟨ip, xs, hx, ia⟩ := w2.ce.at hp hg
          refine ⟨t, _, rfl, Evl.ex_t w2.fr.ih hs, rfl, vy, [vx], rfl, _, eo, _, ea, p, xs, x, kx, rfl, rfl, hx, by rw [ia.length]; exact hkx, ?_⟩
          have w3 := w2.put hp ip (by rw [hx]; exact fun z => nomatch z) (ia.set iy kx)
          obtain ⟨lj, _⟩ := List.getElem?_eq_some_iff.mp hg
          obtain ⟨ip2, xs2, hx2, ia2⟩ := w3.ce.at hp (List.getElem?_set_self lj)
          refine ⟨vx, [], rfl, _, eo, _, eb, p, xs2, y, ky, rfl, rfl, hx2, by rw [ia2.length, List.length_set]; exact hky, rfl, ?_⟩
          refine m.nx σ _ ρ _ ⟨I, ls, w3.put hp ip2 (by rw [hx2]; exact fun z => nomatch z) (ia2.set ix ky)⟩ ?_
          rw [List.set_set]
          exact h
theorem opd_pickL {ds : List D} {m : Int} {post : D → Prop} (h0 : 0 ≤ m) (h1 : m < ds.length) (p : ∀ d ∈ ds, post d) : OpD K (un2 (rIx K)) [.list ds, .int m] post := by
  have hm : m.toNat < ds.length := by omega
  have e : atI ds m = some ds[m.toNat] := by
    have := atI_nat (List.getElem?_eq_getElem hm)
    rwa [show ((m.toNat : Nat) : Int) = m by omega] at this
  exact opd_ixL e (p _ (List.getElem_mem hm))
end
theorem cutDrop (xs : List D) (k : Nat) : cutD xs (some (k : Int)) none = xs.drop k := by
  unfold cutD
  rw [HT.sIx_nat, HT.sIx_none]
  by_cases h : k ≤ xs.length
  · rw [Nat.min_eq_left h]
    exact List.take_of_length_le (by rw [List.length_drop]; exact Nat.le_refl _)
  · rw [Nat.min_eq_right (by omega), List.drop_of_length_le (by omega), List.drop_of_length_le (by omega)]
    simp
/-! ### how much a thing has in it -/
inductive SB (n : Nat) : Nat → D → Prop
  | non {q : Nat} : SB n q .none
  | bl {q : Nat} (b : Bool) : SB n q (.bool b)
  | int {q : Nat} {i : Int} : i.natAbs ≤ 10000000000000000000000000000000000000000 + 2000 * n → SB n q (.int i)
  | str {q : Nat} {x : Str} : x.length ≤ 2000 * 3 ^ n → SB n q (.str x)
  | lst {q : Nat} {ds : List D} : ds.length ≤ 100 + n → (∀ d ∈ ds, SB n q d) → SB n (q + 1) (.list ds)
  | tup {q : Nat} {ds : List D} : ds.length ≤ 100 + n → (∀ d ∈ ds, SB n q d) → SB n (q + 1) (.tuple ds)
theorem SB.mono {n m q p : Nat} {d : D} (h : SB n q d) (hm : n ≤ m) (hp : q ≤ p) : SB m p d := by
  induction h generalizing p with
  | non => exact .non
  | bl b => exact .bl b
  | int h => exact .int (by omega)
  | str h => exact .str (Nat.le_trans h (Nat.mul_le_mul_left _ (Nat.pow_le_pow_right (by decide) hm)))
  | @lst q ds l _ ih =>
    obtain ⟨p', rfl⟩ : ∃ p', p = p' + 1 := ⟨p - 1, by omega⟩
    exact .lst (by omega) fun d hd => ih d hd (by omega)
  | @tup q ds l _ ih =>
    obtain ⟨p', rfl⟩ : ∃ p', p = p' + 1 := ⟨p - 1, by omega⟩
    exact .tup (by omega) fun d hd => ih d hd (by omega)
def oddL : List D := [.none, .bool true, .bool false, .int 0, .int 1, .int (-1), .int 5, .int (10 ^ 30), .str "", .str "a", .str "hip", .str "end", .tuple [], .list [], .tuple [.int 1, .int 2], .str "Hip", .tuple [.none]] ++
  [.tuple [.int 1, .tuple []], .tuple [.int 4, .tuple [.str "ann", .str "bo"]], .tuple [.int 5, .tuple []], .list [.int 1, .tuple []], .tuple [.int 1, .list [.str "ann"]], .tuple [.bool true, .tuple []], .tuple [.int 2, .tuple [.str "bo", .str "ann"]]] ++
  [.tuple [.tuple [.str "hip", .int 5, .int 9, .tuple [], .tuple [.int 0], .int 0]], .list [.tuple [.str "hip", .int 5, .int 9, .tuple [], .tuple [.int 0], .int 0]], .tuple [.tuple [.int 0, .str "hip", .int 0]], .list [.tuple [.int 0, .str "hip", .int 0]]]
theorem sb_nil {n q : Nat} : ∀ d ∈ ([] : List D), SB n q d := fun _ z => nomatch z
theorem sb_cons {n q : Nat} {x : D} {xs : List D} (h : SB n q x) (t : ∀ d ∈ xs, SB n q d) : ∀ d ∈ x :: xs, SB n q d := fun d hd => by
  rcases List.mem_cons.mp hd with e | e
  · rw [e]; exact h
  · exact t d e
theorem odd_sb : ∀ d ∈ oddL, SB 0 3 d := by
  unfold oddL
  simp only [List.cons_append, List.nil_append]
  repeat' first
    | exact sb_nil
    | refine sb_cons ?_ ?_
    | exact SB.non
    | exact SB.bl _
    | refine SB.int ?_
    | refine SB.str ?_
    | refine SB.lst ?_ ?_
    | refine SB.tup ?_ ?_
    | decide +kernel
def R_law_odd : RSpec := fun ss g post => ∃ b, ss = [.c 0] ∧ g = [some b] ∧ Bag b ∧ ∀ d b', SB 0 3 d → Bag b' → post d [some b']
def R_law_spoilt : Nat → RSpec
  | 0 => fun _ _ _ => False
  | q + 1 => fun ss g post => ∃ b n r d, ss = [.c 0, .d d] ∧ g = [some b] ∧ Bag b ∧ n ≤ 5 ∧ r ≤ q ∧ SB n r d ∧ ∀ d' b', SB (n + 1) (r + 3) d' → Bag b' → post d' [some b']
section
variable {K : PySem.W.Frag} {wd : PySem.World}
def t_law_odd (K : PySem.W.Frag) (wd : PySem.World) : TS := (tSeq (tAsg (tLst (tCons (tC .non) (tCons (tC (.bl true)) (tCons (tC (.bl false)) (tCons (tC (.int 0)) (tCons (tC (.int 1)) (tCons (tUn (rU fun i => .int (-i)) (tC (.int 1))) (tCons (tC (.int 5)) (tCons (tOp (rI CPow fun i j => V.int (i ^ j.toNat)) (tC (.int 10)) (tC (.int 30))) (tCons (tC (.str "")) (tCons (tC (.str "a")) (tCons (tC (.str "hip")) (tCons (tC (.str "end")) (tCons (tTup tNil) (tCons (tLst tNil) (tCons (tTup (tCons (tC (.int 1)) (tCons (tC (.int 2)) tNil))) (tCons (tC (.str "Hip")) (tCons (tTup (tCons (tC .non) tNil)) tNil)))))))))))))))))) (gName 1)) (tSeq (tAsg (tOp (rAddA K) (tVar 1) (tLst (tCons (tTup (tCons (tC (.int 1)) (tCons (tTup tNil) tNil))) (tCons (tTup (tCons (tC (.int 4)) (tCons (tTup (tCons (tC (.str "ann")) (tCons (tC (.str "bo")) tNil))) tNil))) (tCons (tTup (tCons (tC (.int 5)) (tCons (tTup tNil) tNil))) (tCons (tLst (tCons (tC (.int 1)) (tCons (tTup tNil) tNil))) (tCons (tTup (tCons (tC (.int 1)) (tCons (tLst (tCons (tC (.str "ann")) tNil)) tNil))) (tCons (tTup (tCons (tC (.bl true)) (tCons (tTup tNil) tNil))) (tCons (tTup (tCons (tC (.int 2)) (tCons (tTup (tCons (tC (.str "bo")) (tCons (tC (.str "ann")) tNil))) tNil))) tNil))))))))) (gName 1)) (tSeq (tAsg (tOp (rAddA K) (tVar 1) (tLst (tCons (tTup (tCons (tTup (tCons (tC (.str "hip")) (tCons (tC (.int 5)) (tCons (tC (.int 9)) (tCons (tTup tNil) (tCons (tTup (tCons (tC (.int 0)) tNil)) (tCons (tC (.int 0)) tNil))))))) tNil)) (tCons (tLst (tCons (tTup (tCons (tC (.str "hip")) (tCons (tC (.int 5)) (tCons (tC (.int 9)) (tCons (tTup tNil) (tCons (tTup (tCons (tC (.int 0)) tNil)) (tCons (tC (.int 0)) tNil))))))) tNil)) (tCons (tTup (tCons (tTup (tCons (tC (.int 0)) (tCons (tC (.str "hip")) (tCons (tC (.int 0)) tNil)))) tNil)) (tCons (tLst (tCons (tTup (tCons (tC (.int 0)) (tCons (tC (.str "hip")) (tCons (tC (.int 0)) tNil)))) tNil)) tNil)))))) (gName 1)) (tRet (tOp (rIx K) (tVar 1) (tCall (spOf K R_law_take) [] E0 (tCons (tVar 0) (tCons (tCB (rLenA K) (tCons (tVar 1) tNil)) tNil))))))))
theorem go_law_odd (ss : List SV) (g : List Cell) (post : D → List Cell → Prop) (h : R_law_odd ss g post) : GoS K g.length (t_law_odd K wd) (ss ++ List.replicate (2 - ss.length) .no) g (KF g.length post) := by
  obtain ⟨b, rfl, rfl, hb, p⟩ := h
  unfold t_law_odd
  refine gs_seq (gs_asgD (gd_lst ?_))
  repeat (first | (walk_at "g") | (with_reducible refine gd_un ?_) | (with_reducible refine opd_neg ?_) | (refine opd_pow ⟨by decide, by decide, by decide +kernel⟩ ?_) | (with_reducible refine opd_addL (by simp) ?_) | (refine And.intro (by simp) ?_))
  refine gd_take rfl (gd_cb (r := rLenA K) (gs_cons (gd_var rfl (gs_nil (opd_lenL ⟨_, b, rfl, rfl, hb, by simp, by simp, fun m b' h1 h2 hb' => ?_⟩)))))
  exact opd_pick h1 h2 fun d hd => ⟨d, rfl, p d b' (odd_sb d hd) hb'⟩
end
end Go
namespace Go
open PySem PySem.Spec PyProof.Rows L2 SetMix ZipE
open Evl (Ex)
def lenD : D → Nat
  | .list ds => ds.length
  | .tuple ds => ds.length
  | _ => 0
theorem seq_of {d : D} {n q : Nat} (h : seqD d = true) (hd : SB n q d) : ∃ ds q', (d = .list ds ∨ d = .tuple ds) ∧ lenD d = ds.length ∧ q = q' + 1 ∧ ds.length ≤ 100 + n ∧ ∀ e ∈ ds, SB n q' e := by
  cases hd with
  | lst a b => exact ⟨_, _, .inl rfl, rfl, rfl, a, b⟩
  | tup a b => exact ⟨_, _, .inr rfl, rfl, rfl, a, b⟩
  | _ => cases h
theorem seq_len {d : D} (h : seqD d = true) : ∃ ds, (d = .list ds ∨ d = .tuple ds) ∧ lenD d = ds.length := by
  cases d with
  | list ds => exact ⟨ds, .inl rfl, rfl⟩
  | tuple ds => exact ⟨ds, .inr rfl, rfl⟩
  | _ => cases h
theorem log_lt {m n : Nat} (hn : n ≤ 5) (h : m ≤ 10000000000000000000000000000000000000000 + 2000 * n) : m.log2 < 1920 := by
  by_cases z : m = 0
  · rw [z]; decide
  · exact (Nat.log2_lt z).mpr (Nat.lt_of_le_of_lt (show m ≤ 10000000000000000000000000000000000010000 by omega) (by decide +kernel))
theorem int_of {d : D} {n q : Nat} (hn : n ≤ 5) (h : isaD "int" d = true) (hd : SB n q d) : ((∃ i, d = .int i) ∨ ∃ b, d = .bool b) ∧ ((∃ i : Int, d = .int i ∧ i.natAbs.log2 < 1920) ∨ ∃ b, d = .bool b) ∧ (asI d).natAbs ≤ 10000000000000000000000000000000000000000 + 2000 * n ∧ (txI d).length ≤ 2000 := by
  cases hd with
  | @int _ i a => exact ⟨.inl ⟨_, rfl⟩, .inl ⟨_, rfl, log_lt hn a⟩, a, Nat.le_trans (int_text_len_1921 (log_lt hn a)) (by decide)⟩
  | bl b => exact ⟨.inr ⟨_, rfl⟩, .inr ⟨_, rfl⟩, by cases b <;> (show _ ≤ _; simp [asI] <;> omega), by cases b <;> decide +kernel⟩
  | _ => exact absurd h (by simp [isaD, isaN, tyN])
theorem str_of {d : D} {n q : Nat} (h : isaD "str" d = true) (hd : SB n q d) : ∃ x : Str, d = .str x ∧ x.length ≤ 2000 * 3 ^ n := by
  cases hd with
  | str a => exact ⟨_, rfl, a⟩
  | _ => exact absurd h (by simp [isaD, isaN, tyN])
section
variable {K : PySem.W.Frag} {wd : PySem.World}
def t_law_spoilt (q : Nat) (K : PySem.W.Frag) (wd : PySem.World) : TS := (tSeq (tAsg (tCall (spOf K R_law_take) [] E0 (tCons (tVar 0) (tCons (tC (.int 9)) tNil))) (gName 2)) (tSeq (tIfS (tAnd (tB (tCB (rIsiT K) (tCons (tVar 1) (tCons (tTup (tCons (tC (.ty "tuple")) (tCons (tC (.ty "list")) tNil))) tNil)))) (tAnd (tTest (tOp (rI0 fun i j => V.bl (decide (j < i))) (tCB (rLenA K) (tCons (tVar 1) tNil)) (tC (.int 0)))) (tTest (tOp (rI0 fun i j => V.bl (decide (j < i))) (tVar 2) (tC (.int 0)))))) (tSeq (tAsg (tCB (rListA K) (tCons (tVar 1) tNil)) (gName 3)) (tSeq (tAsg (tCall (spOf K R_law_take) [] E0 (tCons (tVar 0) (tCons (tCB (rLenA K) (tCons (tVar 3) tNil)) tNil))) (gName 4)) (tSeq (tIfS (tTest (tOp (rEqD K) (tVar 2) (tC (.int 1)))) (tAsg (tOp (rAddB K) (tSl (rSlL K) (tVar 3) tNoPart (tPart (tVar 4))) (tSl (rSlL K) (tVar 3) (tPart (tOp (rAddB K) (tVar 4) (tC (.int 1)))) tNoPart)) (gName 3)) (tIfS (tTest (tOp (rEqD K) (tVar 2) (tC (.int 2)))) (tAsg (tOp (rAddB K) (tSl (rSlL K) (tVar 3) tNoPart (tPart (tOp (rAddB K) (tVar 4) (tC (.int 1))))) (tSl (rSlL K) (tVar 3) (tPart (tVar 4)) tNoPart)) (gName 3)) (tIfS (tTest (tOp (rEqD K) (tVar 2) (tC (.int 3)))) (tSeq (tAsg (tCall (spOf K R_law_take) [] E0 (tCons (tVar 0) (tCons (tCB (rLenA K) (tCons (tVar 3) tNil)) tNil))) (gName 5)) (tAsg (tTup (tCons (tOp (rIx K) (tVar 3) (tVar 5)) (tCons (tOp (rIx K) (tVar 3) (tVar 4)) tNil))) (gTup K 2 (gCons (gSub (tVar 3) (tVar 4) rSetL) (gCons (gSub (tVar 3) (tVar 5) rSetL) gNil))))) (tIfS (tTest (tOp (rEqD K) (tVar 2) (tC (.int 4)))) (tRet (tIf (tB (tCB (rIsi K) (tCons (tVar 1) (tCons (tC (.ty "tuple")) tNil)))) (tVar 3) (tCB (rTupleA K) (tCons (tVar 3) tNil)))) (tAsg (tCall (spOf K (R_law_spoilt q)) [] E0 (tCons (tVar 0) (tCons (tOp (rIx K) (tVar 3) (tVar 4)) tNil))) (gSub (tVar 3) (tVar 4) rSetL)))))) (tRet (tIf (tB (tCB (rIsi K) (tCons (tVar 1) (tCons (tC (.ty "tuple")) tNil)))) (tCB (rTupleA K) (tCons (tVar 3) tNil)) (tVar 3)))))) tNext) (tSeq (tIfS (tAnd (tB (tCB (rIsi K) (tCons (tVar 1) (tCons (tC (.ty "str")) tNil)))) (tTest (tOp (rI0 fun i j => V.bl (decide (j < i))) (tVar 2) (tC (.int 1))))) (tRet (tOp (rIx K) (tLst (tCons (tOp (rAddB K) (tVar 1) (tC (.str "a"))) (tCons (tSl rSlS (tVar 1) tNoPart (tPart (tUn (rU fun i => .int (-i)) (tC (.int 1))))) (tCons (tOp (rAddB K) (tVar 1) (tC (.str " "))) (tCons (tM0 rUpper (tVar 1)) (tCons (tOp (rAddB K) (tVar 1) (tVar 1)) (tCons (tOp (rAddB K) (tC (.str "z")) (tVar 1)) (tCons (tC (.str "")) tNil)))))))) (tOp rSubB (tVar 2) (tC (.int 2))))) tNext) (tSeq (tIfS (tAnd (tB (tCB (rIsi K) (tCons (tVar 1) (tCons (tC (.ty "int")) tNil)))) (tTest (tOp (rI0 fun i j => V.bl (decide (j < i))) (tVar 2) (tC (.int 1))))) (tRet (tOp (rIx K) (tLst (tCons (tOp (rAddB K) (tVar 1) (tC (.int 1))) (tCons (tOp rSubB (tVar 1) (tC (.int 1))) (tCons (tUn rNegB (tVar 1)) (tCons (tOp (rAddB K) (tVar 1) (tC (.int 1000))) (tCons (tCB rStrI (tCons (tVar 1) tNil)) (tCons (tOp (rAddB K) (tVar 1) (tC (.int 50))) (tCons (tTup (tCons (tVar 1) tNil)) tNil)))))))) (tOp rSubB (tVar 2) (tC (.int 2))))) tNext) (tRet (tCall (spOf K R_law_odd) [] E0 (tCons (tVar 0) tNil)))))))
theorem eqvI (a b : Int) : PyData.eqv (.int a) (.int b) = decide (a = b) := by
  have h : PyData.eqv (.int a) (.int b) = (a == b) := by simp [PyData.eqv]
  rw [h]
  rfl
theorem go_law_spoilt (q : Nat) (ss : List SV) (g : List Cell) (post : D → List Cell → Prop) (h : R_law_spoilt (q + 1) ss g post) : GoS K g.length (t_law_spoilt q K wd) (ss ++ List.replicate (6 - ss.length) .no) g (KF g.length post) := by
  obtain ⟨b, n, r, d, rfl, rfl, hb, hn, hr, hd, p⟩ := h
  have h3 : 3 ^ n ≤ 243 := Nat.le_trans (Nat.pow_le_pow_right (by decide) hn) (by decide)
  have h31 : 3 ^ (n + 1) = 3 * 3 ^ n := by rw [Nat.pow_succ, Nat.mul_comm]
  have h30 : 1 ≤ 3 ^ n := Nat.pos_of_ne_zero (by simp)
  unfold t_law_spoilt
  refine gs_seq (gs_asgD (gd_takeC rfl hb ⟨by decide, by decide⟩ fun way b1 w0 w9 hb1 => ?_))
  refine gs_seq (gs_if (GoT.imp (P := fun b' g1 => b' = (seqD d && (decide (0 < lenD d) && decide (0 < way))) ∧ g1 = [some b1]) ?_ fun b' g1 ⟨e1, e2⟩ => ?_))
  · refine gt_and (gt_B (gd_isiT rfl ⟨_, rfl, fun hs => ?_, fun hs => ⟨by rw [hs]; rfl, rfl⟩⟩))
    obtain ⟨ds, e, l⟩ := seq_len hs
    refine gt_and (gt_test (gd_op (gd_cb (r := rLenA K) (gs_cons (gd_var rfl (gs_nil (opd_lenE e (gd_int (opd_gt ⟨_, rfl, fun hl => ?_, fun hl => ⟨?_, rfl⟩⟩)))))))))
    · refine gt_test (gd_op (gd_var rfl (gd_int (opd_gt ⟨_, rfl, ?_, rfl⟩))))
      rw [hs, l, decide_eq_true (show 0 < ds.length by have := of_decide_eq_true hl; omega)]
      rfl
    · rw [hs, l, decide_eq_false (show ¬ 0 < ds.length by have := of_decide_eq_false hl; omega)]
      rfl
  subst e2
  refine ⟨fun ht => ?_, fun _ => gs_next ?_⟩
  · rw [ht] at e1
    have e1 := e1.symm
    rw [Bool.and_eq_true, Bool.and_eq_true] at e1
    obtain ⟨hs, hl, hw⟩ := e1
    obtain ⟨ds, q', hd2, l, rfl, ln, al⟩ := seq_of hs hd
    obtain ⟨q0, rfl⟩ : ∃ q0, q = q0 + 1 := ⟨q - 1, by omega⟩
    have hl := of_decide_eq_true hl
    rw [l] at hl
    have fin : ∀ (es : List D) (w a o : SV) (g2 : List Cell) (b2 : List D), Bag b2 → g2.take 1 = [some b2] → es.length ≤ 101 + n → (∀ e ∈ es, SB (n + 1) (q' + 3) e) → ∀ κ : Ks, κ.rt = (KF 1 post).rt → GoS K 1 (tRet (tIf (tB (tCB (rIsi K) (tCons (tVar 1) (tCons (tC (.ty "tuple")) tNil)))) (tCB (rTupleA K) (tCons (tVar 3) tNil)) (tVar 3))) [.c 0, .d d, w, .d (.list es), a, o] g2 κ := by
      intro es w a o g2 b2 hb2 hg hle hes κ hκ
      refine gs_ret (gd_if (gt_B (gd_isi (by simp) (gd_var rfl ⟨_, rfl, fun _ => ?_, fun _ => ?_⟩))))
      · refine gd_cb (r := rTupleA K) (gs_cons (gd_var rfl (gs_nil (opd_tupleL ?_))))
        rw [hκ]
        exact ⟨_, rfl, by rw [hg]; exact p _ b2 (.tup (by omega) hes) hb2⟩
      · refine gd_var rfl ?_
        rw [hκ]
        exact ⟨_, rfl, by rw [hg]; exact p _ b2 (.lst (by omega) hes) hb2⟩
    refine gs_seq (gs_asg (ge_listC rfl hd2 ?_))
    refine gs_seq (gs_asgD (gd_take rfl (gd_lenCel (j := 1) (ds := ds) rfl rfl ⟨_, b1, rfl, rfl, hb1, by omega, by omega, fun at0 b2 a0 a1 hb2 => ?_⟩)))
    obtain ⟨k, rfl⟩ : ∃ k : Nat, at0 = (k : Int) := ⟨at0.toNat, by omega⟩
    have hk : k < ds.length := by omega
    have hu : ∀ e ∈ ds, SB (n + 1) (q' + 3) e := fun e he => (al e he).mono (by omega) (by omega)
    have c1 : cutD ds none (some (k : Int)) = ds.take k := cut_take ds k
    have c2 : cutD ds (some (asI (.int (k : Int)) + 1)) none = ds.drop (k + 1) := cutDrop ds (k + 1)
    have c3 : cutD ds none (some (asI (.int (k : Int)) + 1)) = ds.take (k + 1) := cut_take ds (k + 1)
    have c4 : cutD ds (some (k : Int)) none = ds.drop k := cutDrop ds k
    have tk : ∀ m j, ∀ e ∈ ds.take m ++ ds.drop j, SB (n + 1) (q' + 3) e := fun m j e he => by
      rcases List.mem_append.mp he with z | z
      · exact hu e (List.mem_of_mem_take z)
      · exact hu e (List.mem_of_mem_drop z)
    refine gs_seq (gs_if (gt_test (gd_op (gd_var rfl (gd_int (opd_eq rfl rfl ⟨_, rfl, fun h1 => ?_, fun h1 => ?_⟩))))))
    · refine gs_give 3 (j := 1) rfl (Nat.le_refl _) rfl (gs_asgD (gd_op (gd_sl (gd_var rfl ⟨ds, rfl, go_none (go_some (gd_var rfl ⟨_, rfl, gd_sl (gd_var rfl ⟨ds, rfl, go_some (gd_op (gd_var rfl (gd_int (opd_addBN (.inl ⟨_, rfl⟩) ⟨_, rfl, go_none (opd_addBL ?_ (fin _ _ _ _ _ b2 hb2 rfl ?_ ?_ _ rfl))⟩))))⟩)⟩))⟩))))
      all_goals rw [c1, c2]
      · rw [List.length_take, List.length_drop]; omega
      · rw [List.length_append, List.length_take, List.length_drop]; omega
      · exact tk _ _
    refine gs_if (gt_test (gd_op (gd_var rfl (gd_int (opd_eq rfl rfl ⟨_, rfl, fun h2 => ?_, fun h2 => ?_⟩)))))
    · refine gs_give 3 (j := 1) rfl (Nat.le_refl _) rfl (gs_asgD (gd_op (gd_sl (gd_var rfl ⟨ds, rfl, go_none (go_some (gd_op (gd_var rfl (gd_int (opd_addBN (.inl ⟨_, rfl⟩) ⟨_, rfl, gd_sl (gd_var rfl ⟨ds, rfl, go_some (gd_var rfl ⟨_, rfl, go_none (opd_addBL ?_ (fin _ _ _ _ _ b2 hb2 rfl ?_ ?_ _ rfl))⟩)⟩)⟩)))))⟩))))
      all_goals rw [c3, c4]
      · rw [List.length_take, List.length_drop]; omega
      · rw [List.length_append, List.length_take, List.length_drop]; omega
      · exact tk _ _
    refine gs_if (gt_test (gd_op (gd_var rfl (gd_int (opd_eq rfl rfl ⟨_, rfl, fun h4 => ?_, fun h4 => ?_⟩)))))
    · refine gs_seq (gs_asgD (gd_take rfl (gd_lenCel (j := 1) (ds := ds) rfl rfl ⟨_, b2, rfl, rfl, hb2, by omega, by omega, fun o0 b3 p0 p1 hb3 => ?_⟩)))
      obtain ⟨m, rfl⟩ : ∃ m : Nat, o0 = (m : Int) := ⟨o0.toNat, by omega⟩
      have hm : m < ds.length := by omega
      refine gs_swap (r := 3) (a := 4) (b := 5) (j := 1) (ds := ds) (x := (k : Int)) (y := (m : Int)) rfl rfl rfl rfl (atI_nat (List.getElem?_eq_getElem hk)) (atI_nat (List.getElem?_eq_getElem hm)) (ixn_lt hk) (ixn_lt hm) ?_
      refine gs_give 3 (j := 1) rfl (Nat.le_refl _) rfl (fin _ _ _ _ _ b3 hb3 rfl ?_ ?_ _ rfl)
      · rw [List.length_set, List.length_set]; omega
      · intro e he
        rcases List.mem_or_eq_of_mem_set he with z | z
        · rcases List.mem_or_eq_of_mem_set z with z | z
          · exact hu e z
          · rw [z]; exact hu _ (List.getElem_mem hm)
        · rw [z]; exact hu _ (List.getElem_mem hk)
    refine gs_if (gt_test (gd_op (gd_var rfl (gd_int (opd_eq rfl rfl ⟨_, rfl, fun h5 => ?_, fun h5 => ?_⟩)))))
    · refine gs_give 3 (j := 1) rfl (Nat.le_refl _) rfl (gs_ret (gd_if (gt_B (gd_isi (by simp) (gd_var rfl ⟨_, rfl, fun _ => ?_, fun _ => ?_⟩)))))
      · exact gd_var rfl ⟨_, rfl, p _ b2 (.lst (by omega) hu) hb2⟩
      · exact gd_cb (r := rTupleA K) (gs_cons (gd_var rfl (gs_nil (opd_tupleL ⟨_, rfl, p _ b2 (.tup (by omega) hu) hb2⟩))))
    · refine gs_set (gd_bag rfl (gs_cons (gd_ixCel (j := 1) rfl (gd_var rfl ⟨_, ds, ds[k], rfl, rfl, atI_nat (List.getElem?_eq_getElem hk), gs_nil ⟨b2, rfl, b2, n, q', ds[k], rfl, rfl, hb2, hn, by omega, al _ (List.getElem_mem hk), fun d' b' hd' hb' => ⟨b', rfl, ?_⟩⟩⟩))))
      refine ge_var rfl (fun z => nomatch z) ⟨1, rfl, gd_var rfl ⟨_, ds, k, rfl, rfl, ixn_lt hk, ?_⟩⟩
      refine gs_give 3 (j := 1) rfl (Nat.le_refl _) rfl (fin _ _ _ _ _ b' hb' rfl ?_ ?_ _ rfl)
      · rw [List.length_set]; omega
      · intro e he
        rcases List.mem_or_eq_of_mem_set he with z | z
        · exact hu e z
        · rw [z]; exact hd'.mono (by omega) (by omega)
  have isi : ∀ (T : String), (T = "int" ∨ T = "bool" ∨ T = "str" ∨ T = "list" ∨ T = "tuple" ∨ T = "dict") → GoT K 1 (tAnd (tB (tCB (rIsi K) (tCons (tVar 1) (tCons (tC (.ty T)) tNil)))) (tTest (tOp (rI0 fun i j => V.bl (decide (j < i))) (tVar 2) (tC (.int 1))))) [.c 0, .d d, .d (.int way), .no, .no, .no] [] [some b1] fun b' g1 => b' = (isaD T d && decide (1 < way)) ∧ g1 = [some b1] := fun T hT => by
    refine gt_and (gt_B (gd_isi hT (gd_var rfl ⟨_, rfl, fun hs => ?_, fun hs => ⟨by rw [hs]; rfl, rfl⟩⟩)))
    refine gt_test (gd_op (gd_var rfl (gd_int (opd_gt ⟨_, rfl, ?_, rfl⟩))))
    rw [hs]
    rfl
  refine gs_seq (gs_if (GoT.imp (isi "str" (by simp)) fun b' g1 ⟨e1, e2⟩ => ?_))
  subst e2
  refine ⟨fun ht => ?_, fun _ => gs_next ?_⟩
  · rw [ht] at e1
    have e1 := e1.symm
    rw [Bool.and_eq_true] at e1
    obtain ⟨hs, hw⟩ := e1
    have hw := of_decide_eq_true hw
    obtain ⟨x, rfl, hx⟩ := str_of hs hd
    have la : (Str.ofString "a").length = 1 := by decide +kernel
    have lb : (Str.ofString " ").length = 1 := by decide +kernel
    have lz : (Str.ofString "z").length = 1 := by decide +kernel
    have le : (Str.ofString "").length = 0 := by decide +kernel
    refine gs_ret (gd_op (gd_lst (gs_cons (gd_op (gd_var rfl (gd_str (opd_addBS (by rw [la]; omega) (gs_cons (gd_slS (gd_var rfl ⟨x, rfl, by omega, go_none (go_some (gd_un (gd_int (opd_neg ⟨_, rfl, gs_cons (gd_op (gd_var rfl (gd_str (opd_addBS (by rw [lb]; omega) (gs_cons (gd_upper (gd_var rfl ⟨x, rfl, by omega, gs_cons (gd_op (gd_var rfl (gd_var rfl (opd_addBS (by omega) (gs_cons (gd_op (gd_str (gd_var rfl (opd_addBS (by rw [lz]; omega) (gs_cons (gd_str (gs_nil ⟨by simp, gd_op (gd_var rfl (gd_int (opd_subBN (.inl ⟨way, rfl⟩) (opd_pick ?_ ?_ fun e he => ⟨e, rfl, p e b1 ?_ hb1⟩))))⟩))))))))))))⟩)))))))⟩))))⟩))))))))))
    · show 0 ≤ way - 2
      omega
    · show way - 2 < 7
      omega
    · have sz : ∀ y : Str, y.length ≤ 2000 * 3 ^ (n + 1) → SB (n + 1) (r + 3) (.str y) := fun y hy => .str hy
      have ap : ∀ y z : Str, y.length + z.length ≤ 2000 * 3 ^ (n + 1) → SB (n + 1) (r + 3) (.str (y ++ z)) := fun y z h => sz _ (by rw [PySem.Str.length_append]; exact h)
      refine sb_cons (ap _ _ (by rw [la]; omega)) (sb_cons (sz _ (Nat.le_trans (cutS_length _ _ _) (by omega))) (sb_cons (ap _ _ (by rw [lb]; omega)) (sb_cons (sz _ (Nat.le_trans (len_upper x) (by omega))) (sb_cons (ap _ _ (by omega)) (sb_cons (ap _ _ (by rw [lz]; omega)) (sb_cons (sz _ (by rw [le]; omega)) sb_nil)))))) e he
  refine gs_seq (gs_if (GoT.imp (isi "int" (by simp)) fun b' g1 ⟨e1, e2⟩ => ?_))
  subst e2
  refine ⟨fun ht => ?_, fun _ => gs_next ?_⟩
  · rw [ht] at e1
    have e1 := e1.symm
    rw [Bool.and_eq_true] at e1
    obtain ⟨hs, hw⟩ := e1
    have hw := of_decide_eq_true hw
    obtain ⟨t1, t2, t3, t4⟩ := int_of hn hs hd
    refine gs_ret (gd_op (gd_lst (gs_cons (gd_op (gd_var rfl (gd_int (opd_addBN t1 (gs_cons (gd_op (gd_var rfl (gd_int (opd_subBN t1 (gs_cons (gd_un (gd_var rfl (opd_negB t1 (gs_cons (gd_op (gd_var rfl (gd_int (opd_addBN t1 (gs_cons (gd_cb (r := rStrI) (gs_cons (gd_var rfl (gs_nil (opd_strI t2 (gs_cons (gd_op (gd_var rfl (gd_int (opd_addBN t1 (gs_cons (gd_tup (gs_cons (gd_var rfl (gs_nil ⟨by simp, gs_nil ⟨by simp, gd_op (gd_var rfl (gd_int (opd_subBN (.inl ⟨way, rfl⟩) (opd_pick ?_ ?_ fun e he => ⟨e, rfl, p e b1 ?_ hb1⟩))))⟩⟩)))))))))))))))))))))))))))))))))))))
    · show 0 ≤ way - 2
      omega
    · show way - 2 < 7
      omega
    · refine sb_cons (.int (by omega)) (sb_cons (.int (by omega)) (sb_cons (.int (by omega)) (sb_cons (.int (by omega)) (sb_cons (.str (by omega)) (sb_cons (.int (by omega)) (sb_cons (.tup (by show 1 ≤ _; omega) (sb_cons (hd.mono (by omega) (by omega)) sb_nil)) sb_nil)))))) e he
  refine gs_retF (gd_bag rfl (gs_nil ⟨b1, rfl, b1, rfl, rfl, hb1, fun d' b' hd' hb' => ⟨b', rfl, p d' b' (hd'.mono (by omega) (by omega)) hb'⟩⟩))
end
end Go
namespace Go
open PySem PySem.Spec PyProof.Rows L2 SetMix ZipE
open Evl (Ex)
local macro_rules | `(tactic| walk_at "g") => `(tactic| first
  | ((with_reducible refine gd_var (d := ?dd) ?hv ?_); (case hv => exact rfl))
  | ((with_reducible refine gd_ixScr (ns := ?ns) ?hv ?_); (case hv => exact rfl))
  | ((with_reducible refine gd_ixCel (j := ?jj) ?hv ?_); (case hv => exact rfl))
  | ((with_reducible refine gd_lenScr (ns := ?ns) ?hv ?_); (case hv => exact rfl))
  | with_reducible first
    | refine gs_seq ?_ | refine gs_next ?_ | refine gs_ret ?_ | refine gs_asgD ?_ | refine gs_if ?_
    | refine gt_test ?_ | refine gt_B ?_ | refine gt_and ?_ | refine gt_or ?_ | refine gt_not ?_ | refine gt_yes ?_
    | refine gd_int ?_ | refine gd_str ?_ | refine gd_bl ?_ | refine gd_non ?_
    | refine gd_op ?_ | refine gd_tup ?_ | refine gd_lst ?_
    | refine gd_cb (r := rLenA _) ?_ | refine gd_cb (r := rTupleA _) ?_ | refine gd_cb (r := rAbsA) ?_ | refine gd_cb (r := rMax2A) ?_ | refine gd_cb (r := rMin2A) ?_ | refine gd_cb (r := rIntA) ?_ | refine gd_cb (r := rAny _) ?_ | refine gd_cb (r := rAll _) ?_ | refine gd_cb (r := rDictP _) ?_ | refine gd_cb (r := rMax _) ?_ | refine gd_cb (r := rMin _) ?_
    | refine gs_cons ?_ | refine gs_nil ?_ | refine gd_dget ?_
    | refine gd_and ?_ | refine gd_or ?_ | refine gd_not ?_
    | refine opd_addI ?_ | refine opd_sub ?_ | refine opd_lt ?_ | refine opd_le ?_ | refine opd_gt ?_ | refine opd_ge ?_
    | refine opd_lenL ?_ | refine opd_lenT ?_ | refine opd_tupleL ?_ | refine opd_tupleT ?_ | refine opd_max2 ?_ | refine opd_min2 ?_ | refine opd_abs ?_ | refine opd_intB ?_
    | refine Exists.intro _ (And.intro rfl ?_))
def rNeLen (K : PySem.W.Frag) : R2 := fun x y H Q => ∃ a b xs ys, x = .ref a ∧ y = .ref b ∧ SqL K H a xs ∧ SqL K H b ys ∧ xs.length ≠ ys.length ∧ Q (.bl true) H
def rNeN (K : PySem.W.Frag) : R2 := fun x y H Q => rNeD K x y H Q ∨ rNeLen K x y H Q
theorem op_neLen {X : Cx} (hu : X.A.units < cLine) : OpR X (compareOp .NotEq) (rNeLen X.K) := by
  intro pins s σ H x y v u Q I rx ry h
  obtain ⟨a, b, xs, ys, rfl, rfl, h1, h2, ne, q⟩ := h
  cases rx
  cases ry
  obtain ⟨i1, r1, p1, _⟩ := I.list h1
  obtain ⟨i2, r2, p2, _⟩ := I.list h2
  have e1 := r1.length
  have e2 := r2.length
  refine SeqAt.RcNeAt.lists_lengths p1.isList p2.isList ?_ hu _ _ _ _ ⟨.bl true, H, I, rfl, q⟩
  simp only [List.size_toArray, bne_iff_ne, ne_eq]
  omega
theorem op_neN {X : Cx} (hu : X.A.units + 64 < cLine) : OpR X (compareOp .NotEq) (rNeN X.K) := OpR.or (op_neD hu) (op_neLen (by omega))
def R_law_whole : RSpec := fun ss g post => ∃ d, ss = [.d d] ∧ g = [] ∧ post (.bool (wholeB d)) []
def R_law_is_paper : RSpec := fun ss g post => ∃ cs pl, ∃ (m : Nat) (d : D), ss = [.d (encCs cs), .d (encP pl), .d (.int (m : Int)), .d d] ∧ g = [] ∧ OkP cs pl ∧ (∀ c ∈ cs, c.tm.length ≤ 1000) ∧ m ≤ 1000 ∧ post (.bool (papB cs pl m d)) []
theorem not_ff {b : Bool} (h : (!b) = false) : b = true := by cases b <;> first | rfl | cases h
theorem not_tt {b : Bool} (h : (!b) = true) : b = false := by cases b <;> first | rfl | cases h
theorem pap_row {cs : List Cs} {pl : List Rw} {m : Nat} {P : List (List Int)} (h : papB cs pl m (.tuple (P.map encTu)) = true) (hl : ∀ R ∈ P, R.length = m + 1) (len : P.length = pl.length) : ∀ k, k < pl.length → RowOk cs pl m P k := by
  intro k hk c hc
  have h : (decide ((P.map encTu).length = pl.length) && (((P.map encTu).all fun x => numsB x ((m : Int) + 1)) && (List.range pl.length).all (rowPB cs pl ((P.map encTu).map unT)))) = true := h
  rw [unTs, Bool.and_eq_true, Bool.and_eq_true] at h
  have h2 := List.all_eq_true.mp h.2.2 k (List.mem_range.mpr hk)
  have mem : P.getD k [] ∈ P := by
    rw [List.getD_eq_getElem?_getD, List.getElem?_eq_getElem (by omega : k < P.length)]
    exact List.getElem_mem _
  have rl := hl _ mem
  unfold rowPB at h2
  rw [Bool.and_eq_true] at h2
  refine ⟨of_decide_eq_true (List.all_eq_true.mp h2.1 _ (getD0_mem (by omega))), fun p hp => ?_⟩
  have h3 := List.all_eq_true.mp h2.2 p hp
  unfold wfB at h3
  exact of_decide_eq_true (List.all_eq_true.mp h3 c (List.mem_range.mpr (by omega)))
section
variable {K : PySem.W.Frag} {wd : PySem.World} {n : Nat} {ρ ts : List SV} {g : List Cell}
theorem opd_neN {ds : List D} {post : D → Prop} (p : post (.bool (!ds.isEmpty))) : OpD K (un2 (rNeN K)) [.list ds, .list []] post := by
  cases ds with
  | nil => exact OpD.or1 (opd_ne rfl rfl p)
  | cons d ds =>
    refine OpD.or2 fun I H ws ex hw Q q => ?_
    obtain ⟨v, w, rfl, i1, i2⟩ := all2 hw
    obtain ⟨a, xs, rfl, hs, ha⟩ := is_list i1
    obtain ⟨b, ys, rfl, hs2, ha2⟩ := is_list i2
    have l1 := ha.length
    have l2 := ha2.length
    exact ⟨_, _, rfl, a, b, xs, ys, rfl, rfl, .inl (Evl.ex_rd ex hs), .inl (Evl.ex_rd ex hs2), by rw [l1, l2]; simp, out0 ex q (.bl _) p⟩
def t_law_whole (K : PySem.W.Frag) (wd : PySem.World) : TS := (tRet (tAndV (tCB (rIsi K) (tCons (tVar 0) (tCons (tC (.ty "int")) tNil))) (tNotV (tCB (rIsi K) (tCons (tVar 0) (tCons (tC (.ty "bool")) tNil))))))
theorem go_law_whole (ss : List SV) (g : List Cell) (post : D → List Cell → Prop) (h : R_law_whole ss g post) : GoS K g.length (t_law_whole K wd) (ss ++ List.replicate (1 - ss.length) .no) g (KF g.length post) := by
  obtain ⟨d, rfl, rfl, p⟩ := h
  unfold t_law_whole
  refine gs_ret (gd_and (gd_isi (by simp) (gd_var rfl ⟨_, rfl, fun hb => ?_, fun hb => ?_⟩)))
  · refine gd_not (gd_isi (by simp) (gd_var rfl ⟨_, rfl, _, rfl, ?_⟩))
    rw [isa_whole hb]
    exact p
  · rw [isa_whole0 hb] at p
    exact ⟨_, rfl, p⟩
def t_law_is_paper (K : PySem.W.Frag) (wd : PySem.World) : TS := (tSeq (tIfS (tOr (tNot (tB (tCB (rIsi K) (tCons (tVar 3) (tCons (tC (.ty "tuple")) tNil))))) (tTest (tOp (rNeD K) (tCB (rLenA K) (tCons (tVar 3) tNil)) (tCB (rLenA K) (tCons (tVar 1) tNil))))) (tRet (tC (.bl false))) tNext) (tSeq (tFor (iTup K (tVar 3)) (gName 4) (tSeq (tIfS (tOr (tNot (tB (tCB (rIsi K) (tCons (tVar 4) (tCons (tC (.ty "tuple")) tNil))))) (tTest (tOp (rNeD K) (tCB (rLenA K) (tCons (tVar 4) tNil)) (tOp (rAddA K) (tVar 2) (tC (.int 1)))))) (tRet (tC (.bl false))) tNext) (tIfS (tTest (tOp (rNeN K) (tLc (iTup K (tVar 4)) (gName 13) (tNot (tB (tCall (spOf K R_law_whole) [] E0 (tCons (tVar 13) tNil)))) (tVar 13) [13]) (tLst tNil))) (tRet (tC (.bl false))) tNext))) (tSeq (tAsg (tCB (rDictP K) (tCons (tLc (iTup K (tVar 0)) (gName 12) tYes (tTup (tCons (tOp (rIx K) (tVar 12) (tC (.int 0))) (tCons (tVar 12) tNil))) [12]) tNil)) (gName 5)) (tSeq (tAsg (tCall (spOf K R_law_leans) [] E0 (tCons (tVar 0) (tCons (tVar 1) tNil))) (gName 6)) (tSeq (tFor (iEnum1 K (tCons (tVar 1) tNil)) (gTup K 2 (gCons (gName 7) (gCons (gName 8) gNil))) (tFor (iRng1 (tCons (tOp (rAddA K) (tVar 2) (tC (.int 1))) tNil)) (gName 9) (tSeq (tAsg (tOp (rIx K) (tVar 8) (tC (.int 0))) (gName 10)) (tSeq (tFor (iTup K (tOp (rIx K) (tVar 6) (tVar 7))) (gName 11) (tSeq (tAsg (tSl (rSlA K) (tDGet (tVar 5) (tOp (rIx K) (tOp (rIx K) (tVar 1) (tVar 11)) (tC (.int 1)))) (tPart (tC (.int 1))) (tPart (tC (.int 3)))) (gTup K 2 (gCons (gName 14) (gCons (gName 15) gNil)))) (tSeq (tAsg (tCB rMax2A (tCons (tVar 10) (tCons (tOp (rAddA K) (tOp (rIx K) (tOp (rIx K) (tVar 3) (tVar 11)) (tVar 9)) (tVar 14)) tNil))) (gName 10)) (tIfS (tTest (tOp (rI0 fun i j => V.bl (decide (j < i))) (tVar 9) (tC (.int 0)))) (tAsg (tCB rMax2A (tCons (tVar 10) (tCons (tOp (rAddA K) (tOp (rIx K) (tOp (rIx K) (tVar 3) (tVar 11)) (tOp (rI0 fun i j => V.int (i - j)) (tVar 9) (tC (.int 1)))) (tVar 15)) tNil))) (gName 10)) tNext)))) (tIfS (tTest (tOp (rI0 fun i j => V.bl (decide (i < j))) (tOp (rIx K) (tOp (rIx K) (tVar 3) (tVar 7)) (tVar 9)) (tVar 10))) (tRet (tC (.bl false))) tNext))))) (tRet (tC (.bl true))))))))
theorem go_law_is_paper (ss : List SV) (g : List Cell) (post : D → List Cell → Prop) (h : R_law_is_paper ss g post) : GoS K g.length (t_law_is_paper K wd) (ss ++ List.replicate (16 - ss.length) .no) g (KF g.length post) := by
  obtain ⟨cs, pl, m, d, rfl, rfl, ok, okl, hm, p⟩ := h
  unfold t_law_is_paper
  have l8 := ok.lp
  have no : papB cs pl m d = false → post (.bool false) [] := fun e => by rw [e] at p; exact p
  refine gs_seq (gs_if (gt_or (gt_not (gt_B (gd_isi (by simp) (gd_var rfl ⟨_, rfl, fun hb => ?_, fun hb => ⟨fun _ => gs_ret (gd_bl ⟨_, rfl, no ?_⟩), fun z => nomatch z⟩⟩))))))
  rotate_left
  · cases d with
    | tuple xs => exact absurd hb (by simp [isaD, isaN, tyN])
    | _ => rfl
  obtain ⟨xs, rfl⟩ := isa_tuple (d := d) (by simpa using hb)
  refine gt_test (gd_op (gd_cb (r := rLenA K) (gs_cons (gd_var rfl (gs_nil (opd_lenT (gd_cb (r := rLenA K) (gs_cons (gd_var rfl (gs_nil (opd_lenT (opd_ne rfl rfl ⟨_, rfl, fun hl => gs_ret (gd_bl ⟨_, rfl, no ?_⟩), fun hl => gs_next ?_⟩))))))))))))
  · rw [eqvI, List.length_map] at hl
    show (decide (xs.length = pl.length) && _) = false
    rw [decide_eq_false (by intro z; rw [z] at hl; simp at hl), Bool.false_and]
  have hlen : xs.length = pl.length := by
    rw [eqvI, List.length_map] at hl
    have := of_decide_eq_true (not_ff hl)
    omega
  refine gs_seq (gs_for (gi_tup (gd_var rfl ⟨xs, rfl, ?_⟩)))
  refine ⟨fun i ρ g => ∃ (x4 : SV), ρ = [.d (encCs cs), .d (encP pl), .d (.int (m : Int)), .d (.tuple xs), x4, .no, .no, .no, .no, .no, .no, .no, .no, .no, .no, .no] ∧ g = [] ∧ ∀ x ∈ xs.take i, numsB x ((m : Int) + 1) = true, ⟨.no, rfl, rfl, fun x z => absurd z (by simp)⟩, fun i x ρ' g' hi ⟨x4, e1, e2, hx⟩ _ => ?_, fun ρ' g' ⟨x4, e1, e2, hx⟩ _ => ?_⟩
  · subst e1 e2
    have mx : x ∈ xs := List.mem_of_getElem? hi
    have bad : numsB x ((m : Int) + 1) = false → papB cs pl m (.tuple xs) = false := fun e => by
      show (_ && ((xs.all fun x => numsB x ((m : Int) + 1)) && _)) = false
      have : (xs.all fun x => numsB x ((m : Int) + 1)) = false := by
        rw [Bool.eq_false_iff]
        intro z
        rw [List.all_eq_true.mp z x mx] at e
        cases e
      rw [this, Bool.false_and, Bool.and_false]
    refine gg_name (gs_seq (gs_if (gt_or (gt_not (gt_B (gd_isi (by simp) (gd_var rfl ⟨_, rfl, fun hb => ?_, fun hb => ⟨fun _ => gs_ret (gd_bl ⟨_, rfl, _, rfl, no (bad ?_)⟩), fun z => nomatch z⟩⟩)))))))
    rotate_left
    · cases x with
      | tuple xs => exact absurd hb (by simp [isaD, isaN, tyN])
      | _ => rfl
    obtain ⟨ys, rfl⟩ := isa_tuple (d := x) (by simpa using hb)
    refine gt_test (gd_op (gd_cb (r := rLenA K) (gs_cons (gd_var rfl (gs_nil (opd_lenT (gd_op (gd_var rfl (gd_int (opd_addI (opd_ne rfl rfl ⟨_, rfl, fun hl => gs_ret (gd_bl ⟨_, rfl, _, rfl, no (bad ?_)⟩), fun hl => gs_next ?_⟩)))))))))))
    · rw [eqvI] at hl
      show (decide ((ys.length : Int) = (m : Int) + 1) && _) = false
      rw [not_tt hl, Bool.false_and]
    have hly : (ys.length : Int) = (m : Int) + 1 := by
      rw [eqvI] at hl
      exact of_decide_eq_true (not_ff hl)
    have enb : numsB (.tuple ys) ((m : Int) + 1) = ys.all wholeB := by
      show (decide ((ys.length : Int) = (m : Int) + 1) && _) = _
      rw [decide_eq_true hly, Bool.true_and]
    refine gs_if (gt_test (gd_op (gd_filT id id (fun x => !wholeB x) mg_name (ij_name (by simp)) (gi_tup (gd_var rfl ⟨ys, rfl, ys, (List.map_id ys).symm, by omega, fun i x hx => gg_name (gt_not (gt_B (gd_call (gs_cons (gd_var rfl (gs_nil ⟨x, rfl, rfl, _, rfl, rfl, rfl, gd_var rfl ⟨rfl, rfl⟩⟩)))))), gd_lst (gs_nil ⟨by decide, opd_neN ⟨_, rfl, fun he => gs_ret (gd_bl ⟨_, rfl, _, rfl, no (bad ?_)⟩), fun he => gs_next ?_⟩⟩)⟩)))))
    · rw [enb, Bool.eq_false_iff]
      intro z
      have : ys.filter (fun x => !wholeB x) = [] := List.filter_eq_nil_iff.mpr fun y hy => by rw [List.all_eq_true.mp z y hy]; decide
      rw [this] at he
      simp at he
    · refine ⟨_, rfl, rfl, fun x hx2 => ?_⟩
      rw [List.take_add_one, hi] at hx2
      rcases List.mem_append.mp hx2 with z | z
      · exact hx x z
      · have z : x = .tuple ys := by simpa using z
        rw [z, enb, List.all_eq_true]
        intro y hy
        rw [List.map_id] at he
        have he : (ys.filter fun x => !wholeB x) = [] := by simpa using he
        have := List.filter_eq_nil_iff.mp he y hy
        simpa using this
  subst e1 e2
  rw [List.take_length] at hx
  obtain ⟨P, rfl, hR⟩ := numss_of (List.all_eq_true.mpr hx)
  have hR : ∀ R ∈ P, R.length = m + 1 := fun R h => by have := hR R h; omega
  have hP : P.length = pl.length := by rw [← hlen, List.length_map]
  refine gs_seq (gs_asgD (gd_cb (r := rDictP K) (gs_cons (gd_mapT encC encCt mg_name (ij_name (by simp)) (gi_tup (gd_var rfl ⟨_, rfl, cs, rfl, by have := ok.lc; omega, fun i c hc => gg_name ?_, ?_⟩))))))
  · (repeat (walk_at "g"))
    refine opd_ixT (d := .str c.nm) rfl ?_
    (repeat (walk_at "g"))
    exact ⟨by show 2 ≤ 100000; decide, rfl, rfl⟩
  rw [enc_pr]
  refine gs_nil (opd_dict ?_)
  refine gs_seq (gs_asgD (gd_call (gs_cons (gd_var rfl (gs_cons (gd_var rfl (gs_nil ⟨cs, pl, rfl, rfl, ok, okl, ?_⟩)))))))
  refine gs_seq (gs_for (gi_enum (gs_cons (gd_var rfl (gs_nil ⟨_, _, rfl, .inr rfl, ?_⟩)))))
  refine ⟨fun i ρ g => ∃ (x4 x7 x8 x9 y0 y1 y4 y5 : SV), ρ = [.d (encCs cs), .d (encP pl), .d (.int (m : Int)), .d (.tuple (P.map encTu)), x4, .d (dct (dictC cs)), .d (.list ((leansM cs pl).map encN)), x7, x8, x9, y0, y1, .no, .no, y4, y5] ∧ g = [] ∧ ∀ k, k < i → RowOk cs pl m P k, ⟨_, .no, .no, .no, .no, .no, .no, .no, rfl, rfl, fun k hk => absurd hk (by omega)⟩, fun i d ρ' g' hi ⟨x4, x7, x8, x9, y0, y1, y4, y5, e1, e2, hO⟩ _ => ?_, fun ρ' g' ⟨x4, x7, x8, x9, y0, y1, y4, y5, e1, e2, hO⟩ _ => ?_⟩
  · subst e1 e2
    obtain ⟨e, he, rfl⟩ := enum_get hi
    obtain ⟨r, hr, rfl⟩ := at_map he
    have li : i < pl.length := (List.getElem?_eq_some_iff.mp hr).1
    have er : pl.getD i default = r := by rw [List.getD_eq_getElem?_getD, hr]; rfl
    have est : stAt pl i = r.st := by unfold stAt; rw [er]
    have ixl : atI ((leansM cs pl).map encN) (i : Int) = some (encN (leanAt cs pl i)) := by
      refine atI_nat ?_
      unfold leansM
      rw [List.getElem?_map, List.getElem?_map, List.getElem?_range li]
      rfl
    have memP : ∀ q, q < pl.length → P.getD q [] ∈ P := fun q hq => by
      rw [List.getD_eq_getElem?_getD, List.getElem?_eq_getElem (by omega : q < P.length)]
      exact List.getElem_mem _
    refine gg2 ?_
    refine gs_for (gi_rng1 (gs_cons (gd_op (gd_var rfl (gd_int (opd_addI (gs_nil ⟨_, rfl, by omega, by omega, ?_⟩)))))))
    rw [show ((m : Int) + 1).toNat = m + 1 by omega]
    refine ⟨fun c ρ g => ∃ (x4 x9 y0 y1 y4 y5 : SV), ρ = [.d (encCs cs), .d (encP pl), .d (.int (m : Int)), .d (.tuple (P.map encTu)), x4, .d (dct (dictC cs)), .d (.list ((leansM cs pl).map encN)), .d (.int (i : Int)), .d (encR r), x9, y0, y1, .no, .no, y4, y5] ∧ g = [] ∧ ∀ c', c' < c → stAt pl i ≤ (P.getD i []).getD c' 0 ∧ ∀ p ∈ leanAt cs pl i, leM (csAt cs pl p) (P.getD p []) c' ≤ (P.getD i []).getD c' 0, ⟨x4, x9, y0, y1, y4, y5, rfl, rfl, fun k hk => absurd hk (by omega)⟩, fun c d ρ' g' hc ⟨x4, x9, y0, y1, y4, y5, e1, e2, hc2⟩ _ => ?_, fun ρ' g' ⟨x4, x9, y0, y1, y4, y5, e1, e2, hc2⟩ _ => ?_⟩
    · subst e1 e2
      obtain ⟨rfl, lc⟩ := rng_at hc
      refine gg_name (gs_seq (gs_asgD (gd_op (gd_var rfl (gd_int (opd_ixT (d := .int r.st) rfl ?_))))))
      refine gs_seq (gs_for (gi_tup (gd_op (gd_var rfl (gd_var rfl (opd_ixL ixl ⟨_, rfl, ?_⟩))))))
      refine ⟨fun j ρ g => ∃ (x4 y1 y4 y5 : SV) (least : Int), ρ = [.d (encCs cs), .d (encP pl), .d (.int (m : Int)), .d (.tuple (P.map encTu)), x4, .d (dct (dictC cs)), .d (.list ((leansM cs pl).map encN)), .d (.int (i : Int)), .d (encR r), .d (.int (c : Int)), .d (.int least), y1, .no, .no, y4, y5] ∧ g = [] ∧ ∀ y, least ≤ y ↔ stAt pl i ≤ y ∧ ∀ p ∈ (leanAt cs pl i).take j, leM (csAt cs pl p) (P.getD p []) c ≤ y, ⟨x4, y1, y4, y5, r.st, rfl, rfl, fun y => ⟨fun z => ⟨by rw [est]; exact z, fun x z => absurd z (by simp)⟩, fun z => by rw [est] at z; exact z.1⟩⟩, fun j d ρ' g' hj ⟨x4, y1, y4, y5, least, e1, e2, ha⟩ _ => ?_, fun ρ' g' ⟨x4, y1, y4, y5, least, e1, e2, ha⟩ _ => ?_⟩
      · subst e1 e2
        obtain ⟨q, hq, rfl⟩ := at_map hj
        have lt : q < i := leanAt_lt (List.mem_of_getElem? hq)
        have mq : pl.getD q default ∈ pl := getD_mem (by omega)
        have ixq : atI (pl.map encR) (q : Int) = some (encR (pl.getD q default)) := ix_map encR (by omega)
        have lq := hR _ (memP q (by omega))
        have ixP : atI (P.map encTu) (q : Int) = some (encTu (P.getD q [])) := ix_map encTu (by omega)
        have tk : ∀ y, (∀ x ∈ (leanAt cs pl i).take (j + 1), leM (csAt cs pl x) (P.getD x []) c ≤ y) ↔ (∀ x ∈ (leanAt cs pl i).take j, leM (csAt cs pl x) (P.getD x []) c ≤ y) ∧ leM (csAt cs pl q) (P.getD q []) c ≤ y := fun y => by
          rw [List.take_add_one, hq]
          constructor
          · intro h
            exact ⟨fun x hx => h x (List.mem_append_left _ hx), h q (List.mem_append_right _ (by simp))⟩
          · rintro ⟨h1, h2⟩ x hx
            rcases List.mem_append.mp hx with z | z
            · exact h1 x z
            · have : x = q := by simpa using z
              rw [this]; exact h2
        refine gg_name (gs_seq (gs_asgG (gd_slT (gd_dget (gd_var rfl ⟨_, rfl, gd_op (gd_op (gd_var rfl (gd_var rfl (opd_ixT ixq (gd_int (opd_ixT (d := .str (pl.getD q default).nm) rfl ⟨.inr (pl.getD q default).nm, _, rfl, lk_dictC ok mq, _, rfl, go_some (gd_int ⟨1, rfl, go_some (gd_int ⟨3, rfl, ?_⟩)⟩)⟩))))))⟩)))))
        have ecut : cutD [PyData.str (getC cs (pl.getD q default).nm).nm, .int (getC cs (pl.getD q default).nm).us, .int (getC cs (pl.getD q default).nm).lo, .tuple ((getC cs (pl.getD q default).nm).tm.map PyData.str), .tuple ((getC cs (pl.getD q default).nm).pl.map PyData.int), .int (getC cs (pl.getD q default).nm).fi] (some 1) (some 3) = [.int (csAt cs pl q).us, .int (csAt cs pl q).lo] := rfl
        rw [ecut]
        refine gg2 ?_
        refine gs_seq (gs_asgD (gd_cb (r := rMax2A) (gs_cons (gd_var rfl (gs_cons (gd_op (gd_op (gd_op (gd_var rfl (gd_var rfl (opd_ixT ixP (gd_var rfl (opd_ixT (ix_int (show c < (P.getD q []).length by omega)) (gd_var rfl (opd_addI (gs_nil (opd_max2 ?_)))))))))))))))))
        rw [max_if2]
        refine gs_if (gt_test (gd_op (gd_var rfl (gd_int (opd_gt ⟨_, rfl, fun hb1 => ?_, fun hb1 => gs_next ⟨_, _, _, _, _, rfl, rfl, fun y => ?_⟩⟩)))))
        · have c0 : 0 < c := by
            have := of_decide_eq_true hb1
            omega
          refine gs_asgD (gd_cb (r := rMax2A) (gs_cons (gd_var rfl (gs_cons (gd_op (gd_op (gd_op (gd_var rfl (gd_var rfl (opd_ixT ixP (gd_op (gd_var rfl (gd_int (opd_sub ?_))))))))))))))
          rw [show (c : Int) - 1 = ((c - 1 : Nat) : Int) by omega]
          refine opd_ixT (ix_int (show c - 1 < (P.getD q []).length by omega)) (gd_var rfl (opd_addI (gs_nil (opd_max2 ?_))))
          rw [max_if2]
          refine ⟨_, _, _, _, _, rfl, rfl, fun y => ?_⟩
          rw [tk, ← and_assoc, ← ha y]
          unfold leM
          rw [if_pos c0]
          omega
        · have c0 : ¬ 0 < c := by
            have := of_decide_eq_false hb1
            omega
          rw [tk, ← and_assoc, ← ha y]
          unfold leM
          rw [if_neg c0]
          omega
      · subst e1 e2
        rw [List.length_map, List.take_length] at ha
        have ri := hR _ (memP i li)
        have ixP : atI (P.map encTu) (i : Int) = some (encTu (P.getD i [])) := ix_map encTu (by omega)
        refine gs_if (gt_test (gd_op (gd_op (gd_op (gd_var rfl (gd_var rfl (opd_ixT ixP (gd_var rfl (opd_ixT (ix_int (show c < (P.getD i []).length by omega)) (gd_var rfl (opd_lt ⟨_, rfl, fun hlt => gs_ret (gd_bl ⟨_, rfl, _, rfl, _, rfl, no ?_⟩), fun hlt => gs_next ⟨_, _, _, _, _, _, rfl, rfl, fun c' hc' => ?_⟩⟩)))))))))))
        · rw [Bool.eq_false_iff]
          intro z
          have := (ha _).mpr (pap_row z hR hP i li c (by omega))
          have := of_decide_eq_true hlt
          omega
        · by_cases z : c' < c
          · exact hc2 c' z
          · have : c' = c := by omega
            rw [this]
            have := of_decide_eq_false hlt
            exact (ha _).mp (by omega)
    · subst e1 e2
      rw [rngD_len] at hc2
      refine ⟨_, _, _, _, _, _, _, _, rfl, rfl, fun k hk c hcm => ?_⟩
      by_cases z : k < i
      · exact hO k z c hcm
      · have : k = i := by omega
        rw [this]
        exact hc2 c (by omega)
  · subst e1 e2
    rw [enum_len, List.length_map] at hO
    rw [later_pap ⟨hP, hR, hO⟩] at p
    exact gs_ret (gd_bl ⟨_, rfl, p⟩)
end
end Go
namespace Go
open PySem PySem.Spec PyProof.Rows L2 SetMix ZipE
open Evl (Ex)
local macro_rules | `(tactic| walk_at "g") => `(tactic| first
  | ((with_reducible refine gd_var (d := ?dd) ?hv ?_); (case hv => exact rfl))
  | ((with_reducible refine gd_ixScr (ns := ?ns) ?hv ?_); (case hv => exact rfl))
  | ((with_reducible refine gd_ixCel (j := ?jj) ?hv ?_); (case hv => exact rfl))
  | ((with_reducible refine gd_lenScr (ns := ?ns) ?hv ?_); (case hv => exact rfl))
  | with_reducible first
    | refine gs_seq ?_ | refine gs_next ?_ | refine gs_ret ?_ | refine gs_asgD ?_ | refine gs_if ?_
    | refine gt_test ?_ | refine gt_B ?_ | refine gt_and ?_ | refine gt_or ?_ | refine gt_not ?_ | refine gt_yes ?_
    | refine gd_int ?_ | refine gd_str ?_ | refine gd_bl ?_ | refine gd_non ?_
    | refine gd_op ?_ | refine gd_tup ?_ | refine gd_lst ?_
    | refine gd_cb (r := rLenA _) ?_ | refine gd_cb (r := rTupleA _) ?_ | refine gd_cb (r := rAbsA) ?_ | refine gd_cb (r := rMax2A) ?_ | refine gd_cb (r := rMin2A) ?_ | refine gd_cb (r := rIntA) ?_ | refine gd_cb (r := rAny _) ?_ | refine gd_cb (r := rAll _) ?_ | refine gd_cb (r := rDictP _) ?_ | refine gd_cb (r := rMax _) ?_ | refine gd_cb (r := rMin _) ?_
    | refine gs_cons ?_ | refine gs_nil ?_ | refine gd_dget ?_
    | refine gd_and ?_ | refine gd_or ?_ | refine gd_not ?_
    | refine opd_addI ?_ | refine opd_sub ?_ | refine opd_lt ?_ | refine opd_le ?_ | refine opd_gt ?_ | refine opd_ge ?_
    | refine opd_lenL ?_ | refine opd_lenT ?_ | refine opd_tupleL ?_ | refine opd_tupleT ?_ | refine opd_max2 ?_ | refine opd_min2 ?_ | refine opd_abs ?_ | refine opd_intB ?_
    | refine Exists.intro _ (And.intro rfl ?_))
/-! ### papers have little in them -/
def Sm (P : List (List Int)) : Prop := P.length ≤ 20 ∧ ∀ R ∈ P, R.length ≤ 20 ∧ ∀ y ∈ R, y.natAbs ≤ 100000
theorem sb_row {R : List Int} (h : R.length ≤ 20) (k : ∀ y ∈ R, y.natAbs ≤ 100000) : SB 0 1 (encTu R) := by
  refine .tup (by rw [List.length_map]; omega) fun d hd => ?_
  obtain ⟨y, hy, rfl⟩ := List.mem_map.mp hd
  exact .int (by have := k y hy; omega)
theorem sb_rows {P : List (List Int)} (h : Sm P) : ∀ d ∈ P.map encTu, SB 0 1 d := fun d hd => by
  obtain ⟨R, hR, rfl⟩ := List.mem_map.mp hd
  exact sb_row (h.2 R hR).1 (h.2 R hR).2
theorem sb_pap {P : List (List Int)} (h : Sm P) : SB 0 3 (.tuple (P.map encTu)) := (SB.tup (by rw [List.length_map]; have := h.1; omega) (sb_rows h)).mono (Nat.le_refl _) (by decide)
theorem sb_papL {P : List (List Int)} (h : Sm P) : SB 0 3 (.list (P.map encTu)) := (SB.lst (by rw [List.length_map]; have := h.1; omega) (sb_rows h)).mono (Nat.le_refl _) (by decide)
theorem mem_cutD {xs : List D} {lo hi : Option Int} {d : D} (h : d ∈ cutD xs lo hi) : d ∈ xs := List.mem_of_mem_drop (List.mem_of_mem_take h)
theorem len_cutD (xs : List D) (lo hi : Option Int) : (cutD xs lo hi).length ≤ xs.length := by
  unfold cutD
  rw [List.length_take, List.length_drop]
  omega
theorem sb_cut3 {n q : Nat} {xs : List D} {a b c d : Option Int} {x : D} (hl : xs.length ≤ 20) (h : ∀ e ∈ xs, SB n q e) (hx : SB n q x) : (cutD xs a b).length + [x].length ≤ 100000 ∧ (cutD xs a b ++ [x]).length + (cutD xs c d).length ≤ 100000 ∧ SB n (q + 1) (.tuple (cutD xs a b ++ [x] ++ cutD xs c d)) := by
  have l1 := len_cutD xs a b
  have l2 := len_cutD xs c d
  refine ⟨by rw [List.length_singleton]; omega, by rw [List.length_append, List.length_singleton]; omega, .tup (by rw [List.length_append, List.length_append, List.length_singleton]; omega) fun e he => ?_⟩
  rcases List.mem_append.mp he with z | z
  · rcases List.mem_append.mp z with z | z
    · exact h e (mem_cutD z)
    · rw [List.mem_singleton] at z; rw [z]; exact hx
  · exact h e (mem_cutD z)
theorem later_sm {cs : List Cs} {pl : List Rw} {m : Nat} {P : List (List Int)} (h : LaterOk cs pl m P) (l8 : pl.length ≤ 8) (hm : m ≤ 10) (s0 : ∀ r ∈ pl, 0 ≤ r.st) (hu : ∀ R ∈ P, ∀ y ∈ R, y ≤ 2000 * (pl.length : Int)) : Sm P := by
  refine ⟨by rw [h.len]; omega, fun R hR => ⟨by rw [h.rl R hR]; omega, fun y hy => ?_⟩⟩
  have up := hu R hR y hy
  obtain ⟨k, hk, rfl⟩ := List.mem_iff_getElem.mp hR
  obtain ⟨c, hc, rfl⟩ := List.mem_iff_getElem.mp hy
  have rl := h.rl _ hR
  have := (h.ok k (by rw [← h.len]; exact hk) c (by omega)).1
  rw [List.getD_eq_getElem?_getD, List.getD_eq_getElem?_getD, List.getElem?_eq_getElem hk] at this
  have this : stAt pl k ≤ (P[k][c]?).getD 0 := this
  rw [List.getElem?_eq_getElem hc] at this
  have this : stAt pl k ≤ P[k][c] := this
  have st : 0 ≤ stAt pl k := by
    unfold stAt
    exact s0 _ (getD_mem (by rw [← h.len]; exact hk))
  omega
theorem const_later {cs : List Cs} {pl : List Rw} (ok : OkP cs pl) (ub : UB cs pl) (m : Nat) : LaterOk cs pl m ((List.range pl.length).map fun k : Nat => List.replicate (m + 1) (2000 * ((k : Int) + 1))) := by
  have at_ : ∀ k, k < pl.length → ((List.range pl.length).map fun k : Nat => List.replicate (m + 1) (2000 * ((k : Int) + 1))).getD k [] = List.replicate (m + 1) (2000 * ((k : Int) + 1)) := fun k hk => by
    rw [List.getD_eq_getElem?_getD, List.getElem?_map, List.getElem?_range hk]
    rfl
  have rp : ∀ (k : Nat) (y : Int), k ≤ m → (List.replicate (m + 1) y).getD k 0 = y := fun k y hk => by
    rw [List.getD_eq_getElem?_getD, List.getElem?_replicate, if_pos (by omega)]
    rfl
  refine ⟨by rw [List.length_map, List.length_range], fun R hR => ?_, fun k hk c hc => ?_⟩
  · obtain ⟨k, _, rfl⟩ := List.mem_map.mp hR
    rw [List.length_replicate]
  · rw [at_ k hk, rp c _ hc]
    refine ⟨?_, fun p hp => ?_⟩
    · have := ub.2 _ (getD_mem (pl := pl) hk)
      show (pl.getD k default).st ≤ _
      omega
    · have lt := leanAt_lt hp
      have u := ub.1 _ (ok.get (getD_mem (pl := pl) (show p < pl.length by omega))).1
      rw [at_ p (by omega)]
      unfold leM
      rw [rp c _ hc, rp (c - 1) _ (by omega)]
      have u1 : (csAt cs pl p).us ≤ 400 := u.1
      have u2 : (csAt cs pl p).lo ≤ 400 := u.2
      split <;> omega
theorem lb_sm {cs : List Cs} {pl : List Rw} {m : Nat} (ok : OkP cs pl) (ub : UB cs pl) (hm : m ≤ 10) (s0 : ∀ r ∈ pl, 0 ≤ r.st) : Sm (lbAll cs pl m) := by
  refine later_sm (lb_later cs pl m) ok.lp hm s0 fun R hR y hy => ?_
  have h := lb_later cs pl m
  rw [lbAll_eq] at hR
  obtain ⟨k, hk, rfl⟩ := List.mem_map.mp hR
  have hk := List.mem_range.mp hk
  obtain ⟨c, hc, rfl⟩ := List.mem_iff_getElem.mp hy
  have lr : (rwM cs pl m k).length = m + 1 := rw_len cs pl m k
  have := later_lb (const_later ok ub m) k hk c (by omega)
  have e : lbV cs pl m k c = (rwM cs pl m k)[c] := by
    unfold lbV
    rw [List.getD_eq_getElem?_getD, List.getElem?_eq_getElem hc]
    rfl
  rw [e, List.getD_eq_getElem?_getD, List.getD_eq_getElem?_getD, List.getElem?_map, List.getElem?_range hk] at this
  have this : (rwM cs pl m k)[c] ≤ ((List.replicate (m + 1) (2000 * ((k : Int) + 1)))[c]?).getD 0 := this
  rw [List.getElem?_replicate, if_pos (by omega)] at this
  have this : (rwM cs pl m k)[c] ≤ 2000 * ((k : Int) + 1) := this
  omega
def R_law07 : RSpec := fun ss g post => ∃ ns : List Int, ss = [.s ns] ∧ g = [] ∧ post (.bool true) []
section
variable {K : PySem.W.Frag} {wd : PySem.World}
def t_law07 (K : PySem.W.Frag) (wd : PySem.World) : TS := (tSeq (tFor (iRng1 (tCons (tOp (rAddA K) (tC (.int 1)) (tCB rMin2A (tCons (tCB (rLenA K) (tCons (tVar 0) tNil)) (tCons (tC (.int 15)) tNil)))) tNil)) (gName 1) (tSeq (tAsg (tCall (spNew K R_law_bag) [] E0 (tCons (tVar 0) (tCons (tVar 1) tNil))) (gName 2)) (tSeq (tAsg (tCall (spOf K R_law_drawn) [] E0 (tCons (tVar 2) (tCons (tC (.int 8)) tNil))) (gTup K 3 (gCons (gName 8) (gCons (gName 9) (gCons (gName 10) gNil))))) (tSeq (tAsg (tCall (spOf K R_law_take) [] E0 (tCons (tVar 2) (tCons (tC (.int 9)) tNil))) (gName 3)) (tSeq (tAsg (tCall (spOf K R_law_later) [] E0 (tCons (tVar 2) (tCons (tVar 9) (tCons (tVar 10) (tCons (tVar 3) tNil))))) (gName 4)) (tSeq (tAsg (tCall (spOf K Rpaper) [] E0 (tCons (tVar 9) (tCons (tVar 10) (tCons (tVar 3) tNil)))) (gName 5)) (tSeq (tIfS (tTest (tOp rIsNB (tCall (spOf K Ris_paper) [] E0 (tCons (tVar 9) (tCons (tVar 10) (tCons (tVar 3) (tCons (tVar 4) tNil))))) (tC (.bl true)))) (tRet (tC (.bl false))) tNext) (tSeq (tAsg (tVar 4) (gName 6)) (tSeq (tIfS (tTest (tOp (rNeD K) (tVar 10) (tTup tNil))) (tSeq (tAsg (tCall (spOf K R_law_take) [] E0 (tCons (tVar 2) (tCons (tCB (rLenA K) (tCons (tVar 10) tNil)) tNil))) (gName 11)) (tSeq (tAsg (tCall (spOf K R_law_take) [] E0 (tCons (tVar 2) (tCons (tOp (rAddA K) (tVar 3) (tC (.int 1))) tNil))) (gName 12)) (tSeq (tAsg (tOp (rAddA K) (tOp (rAddA K) (tSl (rSlA K) (tOp (rIx K) (tVar 5) (tVar 11)) tNoPart (tPart (tVar 12))) (tTup (tCons (tOp (rI0 fun i j => V.int (i - j)) (tOp (rIx K) (tOp (rIx K) (tVar 5) (tVar 11)) (tVar 12)) (tC (.int 1))) tNil))) (tSl (rSlA K) (tOp (rIx K) (tVar 5) (tVar 11)) (tPart (tOp (rAddA K) (tVar 12) (tC (.int 1)))) tNoPart)) (gName 13)) (tAsg (tOp (rAddA K) (tOp (rAddA K) (tSl (rSlA K) (tVar 5) tNoPart (tPart (tVar 11))) (tTup (tCons (tVar 13) tNil))) (tSl (rSlA K) (tVar 5) (tPart (tOp (rAddA K) (tVar 11) (tC (.int 1)))) tNoPart)) (gName 6))))) tNext) (tFor (iList K (tLst (tCons (tVar 4) (tCons (tVar 5) (tCons (tVar 6) (tCons (tCall (spOf K Rpaper) [] E0 (tCons (tVar 9) (tCons (tVar 10) (tCons (tOp (rI (fun _ j => 0 < j) fun i j => V.int (i % j)) (tOp (rAddA K) (tVar 3) (tC (.int 1))) (tC (.int 9))) tNil)))) (tCons (tCall (spOf K R_law_odd) [] E0 (tCons (tVar 2) tNil)) (tCons (tCB (rListA K) (tCons (tVar 5) tNil)) tNil)))))))) (gName 7) (tFor (iRng1 (tCons (tC (.int 4)) tNil)) (gName 14) (tSeq (tAsg (tCall (spOf K Ris_paper) [] E0 (tCons (tVar 9) (tCons (tVar 10) (tCons (tVar 3) (tCons (tVar 7) tNil))))) (gName 15)) (tSeq (tIfS (tOr (tNot (tB (tCB (rIsi K) (tCons (tVar 15) (tCons (tC (.ty "bool")) tNil))))) (tTest (tOp (rNeD K) (tVar 15) (tCall (spOf K R_law_is_paper) [] E0 (tCons (tVar 9) (tCons (tVar 10) (tCons (tVar 3) (tCons (tVar 7) tNil)))))))) (tRet (tC (.bl false))) tNext) (tAsg (tCall (spOf K (R_law_spoilt 30)) [] E0 (tCons (tVar 2) (tCons (tVar 7) tNil))) (gName 7))))))))))))))) (tRet (tC (.bl true))))
theorem go_law07 (ss : List SV) (g : List Cell) (post : D → List Cell → Prop) (h : R_law07 ss g post) : GoS K g.length (t_law07 K wd) (ss ++ List.replicate (16 - ss.length) .no) g (KF g.length post) := by
  obtain ⟨ns, rfl, rfl, p⟩ := h
  unfold t_law07
  refine gs_seq (gs_for (gi_rng1 ?_))
  (repeat (walk_at "g"))
  have hle : (if (15 : Int) < (ns.length : Int) then 15 else (ns.length : Int)) ≤ 15 ∧ 0 ≤ (if (15 : Int) < (ns.length : Int) then 15 else (ns.length : Int)) := by split <;> omega
  refine ⟨by omega, by omega, ?_⟩
  refine ⟨fun i ρ g => ∃ x1 x2 x3 x4 x5 x6 x7 x8 x9 y0 y1 y2 y3 y4 y5 : SV, ρ = [.s ns, x1, x2, x3, x4, x5, x6, x7, x8, x9, y0, y1, y2, y3, y4, y5] ∧ g = [], ⟨.no, .no, .no, .no, .no, .no, .no, .no, .no, .no, .no, .no, .no, .no, .no, rfl, rfl⟩, fun k d ρ' g' hi ⟨x1, x2, x3, x4, x5, x6, x7, x8, x9, y0, y1, y2, y3, y4, y5, e1, e2⟩ _ => ?_, fun ρ' g' ⟨x1, x2, x3, x4, x5, x6, x7, x8, x9, y0, y1, y2, y3, y4, y5, e1, e2⟩ _ => ?_⟩
  · subst e1 e2
    obtain ⟨rfl, lkk⟩ := rng_at hi
    refine gg_name (gs_seq (gs_asg (ge_callN (ga_cons (ge_var rfl (fun z => nomatch z) (ga_cons (ge_var rfl (fun z => nomatch z) (ga_nil ⟨noC2, ns, k, rfl, by omega, fun b hb => ?_⟩))))))))
    refine gs_seq (gs_asgG (gd_bag rfl (gs_cons (gd_int (gs_nil ⟨b, rfl, b, 8, rfl, rfl, hb, by decide, fun h cs pl b1 hH hC _ hP hb1 => ⟨b1, rfl, gg3 ?_⟩⟩)))))
    have ok : OkP cs pl := okP_of hH hC hP
    have okl : ∀ c ∈ cs, c.tm.length ≤ 1000 := fun c hc => by have := (hC.al c hc).tl; omega
    have l8 := ok.lp
    have ub : UB cs pl := ⟨fun c hc => by have := (hC.al c hc).l1; have := (hC.al c hc).l2; omega, fun r hr => by
      obtain ⟨c, hc, _, _, _, f2⟩ := hP.al r hr
      have := (hC.al c hc).f1
      omega⟩
    have s0 : ∀ r ∈ pl, 0 ≤ r.st := fun r hr => by
      obtain ⟨c, hc, _, _, f1, _⟩ := hP.al r hr
      have := (hC.al c hc).f0
      omega
    refine gs_seq (gs_asgD (gd_take rfl (gd_int ⟨9, b1, rfl, rfl, hb1, by decide, by decide, fun mi b2 m0 m1 hb2 => ?_⟩)))
    obtain ⟨m, rfl⟩ : ∃ m : Nat, mi = m := ⟨mi.toNat, by omega⟩
    refine gs_seq (gs_asgD (gd_bag rfl (gs_cons (gd_var rfl (gs_cons (gd_var rfl (gs_cons (gd_var rfl (gs_nil ⟨b2, rfl, b2, cs, pl, m, rfl, rfl, hb2, ok, okl, by omega, fun P b3 hPk hPu hb3 => ⟨b3, rfl, ?_⟩⟩)))))))))
    refine gs_seq (gs_asgD (gd_call (gs_cons (gd_var rfl (gs_cons (gd_var rfl (gs_cons (gd_var rfl (gs_nil ⟨cs, pl, m, rfl, rfl, ok, okl, by omega, ?_⟩)))))))))
    refine gs_seq (gs_if (gt_test (gd_op (gd_call (gs_cons (gd_var rfl (gs_cons (gd_var rfl (gs_cons (gd_var rfl (gs_cons (gd_var rfl (gs_nil ⟨cs, pl, m, _, rfl, rfl, ok, okl, by omega, gd_bl ?_⟩)))))))))))))
    rw [later_pap hPk]
    refine opd_isNB ⟨_, rfl, fun z => absurd z (by decide), fun _ => gs_next ?_⟩
    have smP := later_sm hPk l8 (by omega) s0 (hPu ub)
    have smT := lb_sm (m := m) ok ub (by omega) s0
    have smT2 := lb_sm (m := (m + 1) % 9) ok ub (by omega) s0
    have lt : (lbAll cs pl m).length = pl.length := lbAll_len cs pl m
    refine gs_seq (gs_asgD (gd_var rfl ?_))
    -- all that is held against it
    have main : ∀ (low : D) (y1 y2 y3 : SV) (b : List D), SB 0 3 low → Bag b → GoS K 0 (tFor (iList K (tLst (tCons (tVar 4) (tCons (tVar 5) (tCons (tVar 6) (tCons (tCall (spOf K Rpaper) [] E0 (tCons (tVar 9) (tCons (tVar 10) (tCons (tOp (rI (fun _ j => 0 < j) fun i j => V.int (i % j)) (tOp (rAddA K) (tVar 3) (tC (.int 1))) (tC (.int 9))) tNil)))) (tCons (tCall (spOf K R_law_odd) [] E0 (tCons (tVar 2) tNil)) (tCons (tCB (rListA K) (tCons (tVar 5) tNil)) tNil)))))))) (gName 7) (tFor (iRng1 (tCons (tC (.int 4)) tNil)) (gName 14) (tSeq (tAsg (tCall (spOf K Ris_paper) [] E0 (tCons (tVar 9) (tCons (tVar 10) (tCons (tVar 3) (tCons (tVar 7) tNil))))) (gName 15)) (tSeq (tIfS (tOr (tNot (tB (tCB (rIsi K) (tCons (tVar 15) (tCons (tC (.ty "bool")) tNil))))) (tTest (tOp (rNeD K) (tVar 15) (tCall (spOf K R_law_is_paper) [] E0 (tCons (tVar 9) (tCons (tVar 10) (tCons (tVar 3) (tCons (tVar 7) tNil)))))))) (tRet (tC (.bl false))) tNext) (tAsg (tCall (spOf K (R_law_spoilt 30)) [] E0 (tCons (tVar 2) (tCons (tVar 7) tNil))) (gName 7)))))) [.s ns, .d (.int (k : Int)), .c 0, .d (.int (m : Int)), .d (.tuple (P.map encTu)), .d (.tuple ((lbAll cs pl m).map encTu)), .d low, x7, .d (encH h), .d (encCs cs), .d (encP pl), y1, y2, y3, y4, y5] [some b] ⟨fun ρ3 g3 => ∃ x1 x2 x3 x4 x5 x6 x7 x8 x9 y0 y1 y2 y3 y4 y5 : SV, cutS 0 ρ3 = [.s ns, x1, x2, x3, x4, x5, x6, x7, x8, x9, y0, y1, y2, y3, y4, y5] ∧ g3.take 0 = [], fun s g3 => ∃ d, s = .d d ∧ (KF 0 post).rt (.d d) (g3.take 0), fun ρ3 g3 => GoS K 0 (tRet (tC (.bl true))) (cutS 0 ρ3) (g3.take 0) (KF 0 post), fun ρ3 g3 => ∃ x1 x2 x3 x4 x5 x6 x7 x8 x9 y0 y1 y2 y3 y4 y5 : SV, cutS 0 ρ3 = [.s ns, x1, x2, x3, x4, x5, x6, x7, x8, x9, y0, y1, y2, y3, y4, y5] ∧ g3.take 0 = []⟩ := by
      intro low y1 y2 y3 b hlow hb
      refine gs_for (gi_list (gd_lst (gs_cons (gd_var rfl (gs_cons (gd_var rfl (gs_cons (gd_var rfl (gs_cons (gd_call (gs_cons (gd_var rfl (gs_cons (gd_var rfl (gs_cons (gd_op (gd_op (gd_var rfl (gd_int (opd_addI (gd_int (opd_mod (by decide) (gs_nil ⟨cs, pl, (m + 1) % 9, by rw [show (((m + 1) % 9 : Nat) : Int) = ((m : Int) + 1) % 9 by omega]; rfl, rfl, ok, okl, by omega, gs_cons (gd_bag rfl (gs_nil ⟨b, rfl, b, rfl, rfl, hb, fun od b' hod hb' => ⟨b', rfl, gs_cons (gd_cb (r := rListA K) (gs_cons (gd_var rfl (gs_nil (opd_listE (.inr rfl) (gs_nil ⟨by simp, _, rfl, ?_⟩))))))⟩⟩))⟩)))))))))))))))))))))))
      have all : ∀ d ∈ [.tuple (P.map encTu), .tuple ((lbAll cs pl m).map encTu), low, .tuple ((lbAll cs pl ((m + 1) % 9)).map encTu), od, .list ((lbAll cs pl m).map encTu)], SB 0 3 d := sb_cons (sb_pap smP) (sb_cons (sb_pap smT) (sb_cons hlow (sb_cons (sb_pap smT2) (sb_cons hod (sb_cons (sb_papL smT) sb_nil)))))
      refine ⟨fun i ρ g => ∃ (x7 y1 y2 y3 y4 y5 : SV) (b : List D), ρ = [.s ns, .d (.int (k : Int)), .c 0, .d (.int (m : Int)), .d (.tuple (P.map encTu)), .d (.tuple ((lbAll cs pl m).map encTu)), .d low, x7, .d (encH h), .d (encCs cs), .d (encP pl), y1, y2, y3, y4, y5] ∧ g = [some b] ∧ Bag b, ⟨_, _, _, _, _, _, b', rfl, rfl, hb'⟩, fun i d ρ' g' hi ⟨x7, y1, y2, y3, y4, y5, b, e1, e2, hb⟩ _ => ?_, fun ρ' g' ⟨x7, y1, y2, y3, y4, y5, b, e1, e2, hb⟩ _ => ?_⟩
      · subst e1 e2
        have hd := all d (List.mem_of_getElem? hi)
        refine gg_name (gs_for (gi_rng1 (gs_cons (gd_int (gs_nil ⟨_, rfl, by decide, by decide, ?_⟩)))))
        refine ⟨fun t ρ g => ∃ (y1 y2 y3 y4 y5 : SV) (d : D) (b : List D), ρ = [.s ns, .d (.int (k : Int)), .c 0, .d (.int (m : Int)), .d (.tuple (P.map encTu)), .d (.tuple ((lbAll cs pl m).map encTu)), .d low, .d d, .d (encH h), .d (encCs cs), .d (encP pl), y1, y2, y3, y4, y5] ∧ g = [some b] ∧ Bag b ∧ SB t (3 + 3 * t) d, ⟨_, _, _, _, _, _, b, rfl, rfl, hb, hd⟩, fun t d ρ' g' hi ⟨y1, y2, y3, y4, y5, d2, b, e1, e2, hb, hd⟩ _ => ?_, fun ρ' g' ⟨y1, y2, y3, y4, y5, d2, b, e1, e2, hb, hd⟩ _ => ?_⟩
        rotate_left
        · subst e1 e2
          exact ⟨_, _, _, _, _, _, b, rfl, rfl, hb⟩
        subst e1 e2
        obtain ⟨rfl, lt4⟩ := rng_at hi
        have lt4 : t < 4 := lt4
        refine gg_name (gs_seq (gs_asgD (gd_call (gs_cons (gd_var rfl (gs_cons (gd_var rfl (gs_cons (gd_var rfl (gs_cons (gd_var rfl (gs_nil ⟨cs, pl, m, d2, rfl, rfl, ok, okl, by omega, ?_⟩))))))))))))
        refine gs_seq (gs_if (gt_or (gt_not (gt_B (gd_isi (by simp) (gd_var rfl ⟨_, rfl, fun _ => ?_, fun z => absurd z (by simp [isaD, isaN, tyN])⟩))))))
        refine gt_test (gd_op (gd_var rfl (gd_call (gs_cons (gd_var rfl (gs_cons (gd_var rfl (gs_cons (gd_var rfl (gs_cons (gd_var rfl (gs_nil ⟨cs, pl, m, d2, rfl, rfl, ok, okl, by omega, opd_ne rfl rfl ⟨_, rfl, fun z => absurd z ?_, fun _ => gs_next ?_⟩⟩))))))))))))
        · cases papB cs pl m d2 <;> decide
        · refine gs_asgD (gd_bag rfl (gs_cons (gd_var rfl (gs_nil ⟨b, rfl, b, t, 3 + 3 * t, d2, rfl, rfl, hb, by omega, (show 3 + 3 * t ≤ 29 by omega), hd, fun d' b' h' hb' => ⟨b', rfl, ?_⟩⟩))))
          exact ⟨_, _, _, _, _, _, b', rfl, rfl, hb', h'⟩
      · subst e1 e2
        exact ⟨_, _, _, _, _, _, _, _, _, _, _, _, _, _, _, rfl, rfl⟩
    refine gs_seq (gs_if (gt_test (gd_op (gd_var rfl (gd_tup (gs_nil ⟨by decide, opd_ne ?_ rfl ⟨_, rfl, fun hne => ?_, fun _ => gs_next (main _ _ _ _ b3 (sb_pap smP) hb3)⟩⟩))))))
    · exact shaped_plan ok
    have ln0 : 0 < pl.length := by
      cases pl with
      | nil => exact absurd hne (by decide)
      | cons r pl => simp
    refine gs_seq (gs_asgD (gd_take rfl (gd_cb (r := rLenA K) (gs_cons (gd_var rfl (gs_nil (opd_lenT ⟨_, b3, rfl, rfl, hb3, by rw [List.length_map]; omega, by rw [List.length_map]; omega, fun at0 b4 a0 a1 hb4 => ?_⟩)))))))
    rw [List.length_map] at a1
    obtain ⟨a, rfl⟩ : ∃ a : Nat, at0 = a := ⟨at0.toNat, by omega⟩
    refine gs_seq (gs_asgD (gd_take rfl (gd_op (gd_var rfl (gd_int (opd_addI ⟨_, b4, rfl, rfl, hb4, by omega, by omega, fun c0 b5 p0 p1 hb5 => ?_⟩))))))
    obtain ⟨c, rfl⟩ : ∃ c : Nat, c0 = c := ⟨c0.toNat, by omega⟩
    have ixa : atI ((lbAll cs pl m).map encTu) (a : Int) = some (encTu ((lbAll cs pl m).getD a [])) := ix_map encTu (by omega)
    have mem : (lbAll cs pl m).getD a [] ∈ lbAll cs pl m := by
      rw [List.getD_eq_getElem?_getD, List.getElem?_eq_getElem (by omega : a < (lbAll cs pl m).length)]
      exact List.getElem_mem _
    have rl := (lb_later cs pl m).rl _ mem
    have sr := smT.2 _ mem
    generalize (lbAll cs pl m).getD a [] = R at ixa mem rl sr
    have yv := sr.2 _ (getD0_mem (show c < R.length by omega))
    have hrow : ∀ e ∈ R.map PyData.int, SB 0 0 e := fun e he => by
      obtain ⟨y, hy, rfl⟩ := List.mem_map.mp he
      exact .int (by have := sr.2 y hy; omega)
    obtain ⟨r1, r2, r3⟩ := sb_cut3 (a := none) (b := some (c : Int)) (c := some ((c : Int) + 1)) (d := none) (x := .int (R.getD c 0 - 1)) (by rw [List.length_map]; omega) hrow (.int (by omega))
    obtain ⟨q1, q2, q3⟩ := sb_cut3 (a := none) (b := some (a : Int)) (c := some ((a : Int) + 1)) (d := none) (by rw [List.length_map]; omega) (sb_rows smT) r3
    refine gs_seq (gs_asgD (gd_op (gd_op (gd_slT (gd_op (gd_var rfl (gd_var rfl (opd_ixT ixa ⟨_, rfl, go_none (go_some (gd_var rfl ⟨_, rfl, gd_tup (gs_cons (gd_op (gd_op (gd_op (gd_var rfl (gd_var rfl (opd_ixT ixa (gd_var rfl (opd_ixT (ix_int (show c < R.length by omega)) (gd_int (opd_sub (gs_nil ⟨by simp, opd_addT r1 (gd_slT (gd_op (gd_var rfl (gd_var rfl (opd_ixT ixa ⟨_, rfl, go_some (gd_op (gd_var rfl (gd_int (opd_addI ⟨_, rfl, go_none (opd_addT r2 ?_)⟩))))⟩)))))⟩))))))))))))⟩))⟩))))))))
    refine gs_asgD (gd_op (gd_op (gd_slT (gd_var rfl ⟨_, rfl, go_none (go_some (gd_var rfl ⟨_, rfl, gd_tup (gs_cons (gd_var rfl (gs_nil ⟨by simp, opd_addT q1 (gd_slT (gd_var rfl ⟨_, rfl, go_some (gd_op (gd_var rfl (gd_int (opd_addI ⟨_, rfl, go_none (opd_addT q2 ?_)⟩))))⟩))⟩)))⟩))⟩))))
    exact main _ _ _ _ b5 (q3.mono (Nat.le_refl _) (by decide)) hb5
  · subst e1 e2
    exact gs_ret (gd_bl ⟨_, rfl, p⟩)
end
end Go
/-! t[::-1] of a tuple -/
namespace HT
open PySem PySem.Spec PyProof.Rows L2
theorem range_get : ∀ m : List Value, (List.range m.length).filterMap (fun k => m[k]?) = m
  | [] => rfl
  | x :: t => by
    rw [List.length_cons, List.range_succ_eq_map, List.filterMap_cons, List.filterMap_map]
    show x :: (List.range t.length).filterMap (fun k => t[k]?) = x :: t
    rw [range_get t]
theorem fm_congr {α β : Type} {f g : α → Option β} : ∀ {l : List α}, (∀ x ∈ l, f x = g x) → l.filterMap f = l.filterMap g
  | [], _ => rfl
  | x :: l, h => by rw [List.filterMap_cons, List.filterMap_cons, h x List.mem_cons_self, fm_congr fun y hy => h y (List.mem_cons_of_mem _ hy)]
theorem pick_rev (xs : Array Value) : ((List.range xs.size).filterMap fun (k : Nat) => xs[(((xs.size : Int) - 1) + (k : Int) * (-1)).toNat]?).toArray = xs.toList.reverse.toArray := by
  congr 1
  have h := range_get xs.toList.reverse
  rw [List.length_reverse, Array.length_toList] at h
  rw [← h]
  refine fm_congr fun k hk => ?_
  have lk := List.mem_range.mp hk
  rw [List.getElem?_reverse (by rw [Array.length_toList]; exact lk), Array.length_toList, Array.getElem?_toList]
  congr 1
  omega
section
variable {prog : Program} {w : World} {A : Around} {E : Value → Shared → Prop} {s : Shared}
theorem sliceApplied_rev {sl : Addr} {vl vu vs : Value} {n : Nat} {Q : Int × Int × Nat → Shared → Prop} (hs : s.heap.IsSliceOf sl vl vu vs) (pl : IsPart vl none) (pu : IsPart vu none) (ps : IsPart vs (some (-1)))
    (h : Q ((n : Int) - 1, -1, n) s) : wpAny (model prog w) A (Builtin.Slice.sliceApplied (.ref sl) (pure (n : Int))) Q E s := by
  obtain ⟨os, hos, hcs, hds⟩ := id hs
  unfold Builtin.Slice.sliceApplied Builtin.Slice.sliceFields
  refine wpAny_bind (wpAny_bind (wpAny_field hos hds (x := vl) rfl (wpAny_bind (wpAny_field hos hds (x := vu) rfl (wpAny_bind (wpAny_field hos hds (x := vs) rfl (wpAny_pure ?_)))))))
  refine wpAny_bind (slicePart_ ps ?_)
  show wpAny _ _ (if ((-1 : Int) == 0) = true then _ else _) _ _ s
  rw [if_neg (by decide)]
  refine wpAny_bind (slicePart_ pl (wpAny_bind (slicePart_ pu (wpAny_bind (wpAny_pure ?_)))))
  have e : Builtin.Slice.slicePlaces ((n : Int) - 1) (-1) (-1) = n := by
    unfold Builtin.Slice.slicePlaces
    rw [if_neg (by decide)]
    by_cases z : n = 0
    · subst z; rfl
    · rw [if_pos (by omega)]
      simp
  show wpAny _ _ (pure ((n : Int) - 1, (-1 : Int), Builtin.Slice.slicePlaces ((n : Int) - 1) (-1) (-1))) _ _ s
  rw [e]
  exact wpAny_pure h
theorem getItem_tuple_rev {t sl : Addr} {items : Array Value} {vl vu vs : Value} {Q : Value → Shared → Prop} (ht : IsTup s.heap t items) (hs : s.heap.IsSliceOf sl vl vu vs) (pl : IsPart vl none) (pu : IsPart vu none) (ps : IsPart vs (some (-1)))
    (h : Q (.ref s.heap.objs.size) { s with heap := s.heap.push { cls := .type "tuple", data := .seq items.toList.reverse.toArray } })
    (hsz : items.size ≤ sizeLine) : wpAny (model prog w) A (getItem (.ref t) (.ref sl)) Q E s := by
  have htake : sizeOk (.seq items.toList.reverse.toArray) := by
    show items.toList.reverse.toArray.size ≤ sizeLine
    rw [List.size_toArray, List.length_reverse, Array.length_toList]
    exact hsz
  obtain ⟨os, hos, hcs, hds⟩ := id hs
  have hTs : s.TypeIs (.ref sl) "slice" := ⟨os, hos, hcs⟩
  unfold getItem
  try with_reducible refine wpAny_holding ?_
  first | refine wpAny_bind (wpAny_pure ?_) | skip
  refine wpAny_bind (wpAny_sequenceKey ht.typeIs (by decide) ?_)
  refine wpAny_bind (wpAny_callSpecial?_slot (name := Str.ofString "__getitem__") ht.typeIs PyProof.Rows.slot_tuple_getitem
    (wpAny_call_entry PyProof.Rows.slot_tuple_getitem ht.typeIs entry_tuple_getitem ?_ (args_tuple_getitem _ _)))
  show wpAny _ _ (Builtin.Tuple.tupleItemsOf (.ref t) >>= _) _ _ s
  refine wpAny_bind (tupleItemsOf_ ht ?_)
  refine wpAny_bind (wpAny_typeOf hTs ?_)
  rw [if_pos (by decide)]
  refine wpAny_bind (sliceApplied_rev hs pl pu ps ?_)
  have hno : ¬ ((((items.size : Int) - 1) == 0 && (-1 : Int) == 1 && items.size == items.size) = true) := by
    intro q
    rw [Bool.and_eq_true, Bool.and_eq_true] at q
    exact absurd q.1.2 (by decide)
  show wpAny _ _ (if (((items.size : Int) - 1) == 0 && (-1 : Int) == 1 && items.size == items.size) = true then _ else _) _ _ s
  rw [if_neg hno, pick_rev]
  first
    | exact wpAny_bind (m := Builtin.Tuple.tupleExact _) (wpAny_newObj_type (wpAny_pure ⟨_, rfl, wpAny_pure h⟩) htake)
    | exact wpAny_bind (m := Builtin.Tuple.tupleExact _) (wpAny_newObj_type (wpAny_bind (wpAny_pure (wpAny_pure ⟨_, rfl, wpAny_pure h⟩))) htake)
    | exact wpAny_bind (wpAny_bind (m := Builtin.Tuple.tupleExact _) (wpAny_newObj_type (wpAny_pure (wpAny_pure ⟨_, rfl, wpAny_pure h⟩)) htake))
    | exact wpAny_bind (wpAny_bind (m := Builtin.Tuple.tupleExact _) (wpAny_newObj_type (wpAny_pure ⟨_, rfl, wpAny_pure h⟩) htake))
end
end HT
namespace Go
open PySem PySem.Spec PyProof.Rows L2 SetMix ZipE
open Evl (Ex)
def tRevT (K : PySem.W.Frag) (te : TE) : TE := fun σ H Q => te σ H fun x H1 => ∃ a xs, x = .ref a ∧ SqT K H1 a xs ∧ ∀ p, H1 p = none → Q (.ref p) (upd H1 p (.tup xs.reverse))
theorem pe_revT {X : Cx} {e : Expr} {te : TE} {k : Nat} {p1 p2 p3 pos : Pos} (he : PE X e te) : PE X (.Subscript e (.Slice none none (some (.UnaryOp .USub (.Constant (.int 1) k p1) p2)) p3) pos) (tRevT X.K te) := by
  refine ⟨fun pins s σ H Q I h => ?_⟩
  refine Subscript_ (thn (he.run pins s σ H _ I h) fun v s1 ⟨x, H1, I1, r1, q1⟩ => ?_)
  obtain ⟨a, xs, ex, hx, q⟩ := q1
  subst ex
  cases r1
  have hst : PO X (some (.UnaryOp .USub (.Constant (.int 1) k p1) p2)) (tPart (tUn (rU fun i => .int (-i)) (tC (.int 1)))) := po_some (pe_un un_neg pe_int)
  refine wpAny_Slice (thn (po_none.run pins s1 σ H1 (fun o H2 => o = none ∧ H2 = H1) I1 ⟨rfl, rfl⟩) fun vl s2 ⟨l, H2, I2, pl, el, e2⟩ => ?_)
  subst el e2
  refine thn (po_none.run pins s2 σ H2 (fun o H3 => o = none ∧ H3 = H2) I2 ⟨rfl, rfl⟩) fun vu s3 ⟨u, H3, I3, pu, eu, e3⟩ => ?_
  subst eu e3
  refine thn (hst.run pins s3 σ H3 (fun o H4 => o = some (-1) ∧ H4 = H3) I3 ⟨1, rfl, -1, rfl, rfl, rfl⟩) fun vs s4 ⟨o, H4, I4, ps, eo, e4⟩ => ?_
  subst eo e4
  have I5 : Inv X pins σ H4 { s4 with heap := s4.heap.push { cls := .type "slice", data := .fields #[vl, vu, vs] } } := I4.kept (t' := s4.toks) fun b ob q => Heap.get?_push_of_some _ q
  obtain ⟨its, r, ht, hz⟩ := I5.tuple hx
  have hlen := r.length
  show wpAny (model X.prog X.w) X.A (subscriptTail e (.Slice none none (some (.UnaryOp .USub (.Constant (.int 1) k p1) p2)) p3) (.ref a) (.ref s4.heap.objs.size)) (EP X pins σ Q) X.xe { s4 with heap := s4.heap.push { cls := .type "slice", data := .fields #[vl, vu, vs] } }
  refine tail_any (ops := [.ref a, .ref s4.heap.objs.size]) ht.typeIs (PyProof.Rows.slot_tuple_getitem.lookup) ?_ (by with_unfolding_all rfl)
  refine HT.getItem_tuple_rev ht (Heap.IsSliceOf.new _ vl vu vs) pl pu ps ?_ (by rw [List.size_toArray]; omega)
  refine ⟨.ref _, _, I5.laid (t' := s4.toks) (o := .tup xs.reverse) (fun b ob q => Heap.get?_push_of_some _ q) (Nat.le_refl _) ?_, rfl, q _ (I5.hok.fresh (Nat.le_refl _))⟩
  exact ⟨by rw [List.length_reverse]; exact hz, _, r.reverse, IsTup.new _ _⟩
section
variable {K : PySem.W.Frag} {n : Nat} {ρ ts : List SV} {g : List Cell}
theorem IsAll.rev {I : Hp} : ∀ {vs : List V} {ds : List D}, IsAll K I vs ds → IsAll K I vs.reverse ds.reverse
  | _, _, .nil => .nil
  | _, _, .cons h t => by
    rw [List.reverse_cons, List.reverse_cons]
    exact (IsAll.rev t).append (.one h)
theorem gd_revT {te : TE} {post : D → List Cell → Prop} (h : GoD K n te ρ ts g fun d g1 => ∃ ds, d = .tuple ds ∧ post (.tuple ds.reverse) g1) : GoD K n (tRevT K te) ρ ts g post := by
  intro I0 H0 bs σ vs H hn w Q q
  refine h I0 H0 bs σ vs H hn w _ fun v H1 s g1 ⟨I, ls, w1⟩ ⟨d, e, ds, e2, p1⟩ => ?_
  subst e e2
  obtain ⟨w4, r⟩ := w1.pop
  cases r with
  | d i =>
    obtain ⟨a, xs, rfl, hs, ha⟩ := is_tup i
    refine ⟨a, xs, rfl, Evl.ex_t w4.fr.ih hs, fun p hp => ?_⟩
    exact outT (post := fun d => post d g1) (Q := Q) w4.fr.ih (fun v I' H' d f i p => q v H' (.d d) g1 ⟨I', ls, (w4.step f).push (.d i)⟩ ⟨d, rfl, p⟩) ha.rev p1 hp
end
end Go
namespace Go
open PySem PySem.Spec PyProof.Rows L2 SetMix ZipE
open Evl (Ex)
local macro_rules | `(tactic| walk_at "g") => `(tactic| first
  | ((with_reducible refine gd_var (d := ?dd) ?hv ?_); (case hv => exact rfl))
  | ((with_reducible refine gd_ixScr (ns := ?ns) ?hv ?_); (case hv => exact rfl))
  | ((with_reducible refine gd_ixCel (j := ?jj) ?hv ?_); (case hv => exact rfl))
  | ((with_reducible refine gd_lenScr (ns := ?ns) ?hv ?_); (case hv => exact rfl))
  | with_reducible first
    | refine gs_seq ?_ | refine gs_next ?_ | refine gs_ret ?_ | refine gs_asgD ?_ | refine gs_if ?_
    | refine gt_test ?_ | refine gt_B ?_ | refine gt_and ?_ | refine gt_or ?_ | refine gt_not ?_ | refine gt_yes ?_
    | refine gd_int ?_ | refine gd_str ?_ | refine gd_bl ?_ | refine gd_non ?_
    | refine gd_op ?_ | refine gd_tup ?_ | refine gd_lst ?_
    | refine gd_cb (r := rLenA _) ?_ | refine gd_cb (r := rTupleA _) ?_ | refine gd_cb (r := rAbsA) ?_ | refine gd_cb (r := rMax2A) ?_ | refine gd_cb (r := rMin2A) ?_ | refine gd_cb (r := rIntA) ?_ | refine gd_cb (r := rAny _) ?_ | refine gd_cb (r := rAll _) ?_ | refine gd_cb (r := rDictP _) ?_ | refine gd_cb (r := rMax _) ?_ | refine gd_cb (r := rMin _) ?_
    | refine gs_cons ?_ | refine gs_nil ?_ | refine gd_dget ?_
    | refine gd_and ?_ | refine gd_or ?_ | refine gd_not ?_
    | refine opd_addI ?_ | refine opd_sub ?_ | refine opd_lt ?_ | refine opd_le ?_ | refine opd_gt ?_ | refine opd_ge ?_
    | refine opd_lenL ?_ | refine opd_lenT ?_ | refine opd_tupleL ?_ | refine opd_tupleT ?_ | refine opd_max2 ?_ | refine opd_min2 ?_ | refine opd_abs ?_ | refine opd_intB ?_
    | refine Exists.intro _ (And.intro rfl ?_))
def R_law_within : RSpec := fun ss g post => ∃ d lo hi, ss = [.d d, .d (.int lo), .d (.int hi)] ∧ g = [] ∧ post (.bool (numB d lo hi)) []
def R_law_is_plan : RSpec := fun ss g post => ∃ cs d, ss = [.d (encCs cs), .d d] ∧ g = [] ∧ (cs.map (·.nm)).Nodup ∧ cs.length ≤ 8 ∧ (∀ c ∈ cs, okS c.nm) ∧ (∀ xs, d = .tuple xs → xs.length ≤ 1000) ∧ post (.bool (planB cs d)) []
/-! ### rows in order, and sorted rows -/
theorem nd_len {α : Type} [DecidableEq α] : ∀ {l ks : List α}, l.Nodup → (∀ x ∈ l, x ∈ ks) → l.length ≤ ks.length
  | [], _, _, _ => Nat.zero_le _
  | x :: l, ks, nd, h => by
    have nd2 := List.nodup_cons.mp nd
    have hx := h x List.mem_cons_self
    have ih := nd_len (l := l) (ks := ks.erase x) nd2.2 fun y hy => (List.mem_erase_of_ne (fun e => nd2.1 (by rw [← e]; exact hy))).mpr (h y (List.mem_cons_of_mem _ hy))
    rw [List.length_erase_of_mem hx] at ih
    have := List.length_pos_of_mem hx
    rw [List.length_cons]
    omega
theorem tot_row : PySem.W.TotalLe (PySem.W.dataLe false encR) := PySem.W.sortLe_total _ false _
theorem row_none {cs : List Cs} {a c : D} {nm : Str} (h : findC cs nm = none) : rowB3 cs a (.str nm) c = false := by
  cases c <;> simp only [rowB3, h]
theorem le_of_lt_row {a b : Rw} (h : PySem.W.dataLt (encR a) (encR b) = true) : PySem.W.dataLe false encR a b = true := by
  rcases tot_row.total a b with z | z
  · exact z
  · have z : (!PySem.W.dataLt (encR a) (encR b)) = true := z
    rw [h] at z
    cases z
theorem ris_pw : ∀ {rs : List Rw}, risB (rs.map encR) = true → rs.Pairwise fun a b => PySem.W.dataLe false encR a b = true
  | [], _ => .nil
  | [a], _ => List.pairwise_singleton _ _
  | a :: b :: r, h => by
    have h : (PySem.W.dataLt (encR a) (encR b) && risB ((b :: r).map encR)) = true := h
    rw [Bool.and_eq_true] at h
    have ih := ris_pw h.2
    have l1 := le_of_lt_row h.1
    refine List.pairwise_cons.mpr ⟨fun c hc => ?_, ih⟩
    rcases List.mem_cons.mp hc with e | e
    · rw [e]; exact l1
    · exact tot_row.trans _ _ _ l1 ((List.pairwise_cons.mp ih).1 c e)
theorem eqv_rw {a b : Rw} (h : PyData.eqv (encR a) (encR b) = true) : encR a = encR b := by
  simp [encR, PyData.eqv, PyData.eqvAll] at h
  obtain ⟨h1, h2, h3⟩ := h
  simp [encR, h1, h2, h3]
theorem eqv_rws : ∀ {a b : List Rw}, PyData.eqvAll (a.map encR) (b.map encR) = true → a.map encR = b.map encR
  | [], [], _ => rfl
  | [], _ :: _, h => by simp [PyData.eqvAll] at h
  | _ :: _, [], h => by simp [PyData.eqvAll] at h
  | x :: a, y :: b, h => by
    rw [List.map_cons, List.map_cons] at h ⊢
    unfold PyData.eqvAll at h
    rw [Bool.and_eq_true] at h
    rw [eqv_rw h.1, eqv_rws h.2]
theorem encR_inj {a b : Rw} (h : encR a = encR b) : a = b := by
  cases a
  cases b
  simpa [encR] using h
theorem sort_ris {rs : List Rw} (nd : (rs.map (·.nm)).Nodup) (okr : ∀ r ∈ rs, okS r.nm) (sh : SeqAt.shaped (.list (rs.map encR)) = true) : PyData.eqv (.list (rs.map encR)) (.list ((rs.mergeSort (PySem.W.dataLe false encR)).map encR)) = risB (rs.map encR) := by
  by_cases h : risB (rs.map encR) = true
  · rw [h, List.mergeSort_of_pairwise (ris_pw h)]
    exact eqv_sh sh
  · rw [Bool.eq_false_iff.mpr h, Bool.eq_false_iff]
    intro z
    apply h
    have z : PyData.eqvAll (rs.map encR) ((rs.mergeSort (PySem.W.dataLe false encR)).map encR) = true := by simpa [PyData.eqv] using z
    have e := eqv_rws z
    have so : (rs.mergeSort (PySem.W.dataLe false encR)).Pairwise fun a b => PySem.W.dataLe false encR a b = true := PySem.W.sort_pairwise (PySem.W.sortLe_total _ false _) _
    rw [e]
    exact ris_rows ((List.Perm.map _ (List.mergeSort_perm _ _)).nodup_iff.mpr nd) so
section
variable {K : PySem.W.Frag} {wd : PySem.World} {n : Nat} {ρ ts : List SV} {g : List Cell}
/-- k not in d -/
theorem gd_dnin {td ty : TE} {post : D → List Cell → Prop} (h : GoD K n ty ρ ts g fun dk g1 => GoD K n td ρ (.d dk :: ts) g1 fun d g2 => ∃ kds k, d = dct kds ∧ dk = kD k ∧ post (.bool (!(lk kds k).isSome)) g2) : GoD K n (tDNotIn ty td) ρ ts g post := by
  intro I0 H0 bs σ vs H hn w Q q
  refine h I0 H0 bs σ vs H hn w _ fun y H1 s g1 w1 ⟨dk, e, p⟩ => ?_
  subst e
  refine p I0 H0 bs σ _ H1 hn w1 _ fun x H2 s2 g2 ⟨I, ls, w2⟩ ⟨d, e, kds, k, e2, e3, pp⟩ => ?_
  subst e e2 e3
  obtain ⟨w3, r2⟩ := w2.pop
  obtain ⟨w4, r1⟩ := w3.pop
  cases r1 with
  | d i1 =>
    cases r2 with
    | d i2 =>
      obtain ⟨a, kvs, rfl, ha, hv⟩ := is_dct i2
      cases is_kV i1
      have e : (valV kvs k).isSome = (lk kds k).isSome := by
        cases z : lk kds k with
        | none => rw [hv.look0 z]; rfl
        | some dv =>
          obtain ⟨u, hu, _⟩ := hv.look z
          rw [hu]
          rfl
      exact ⟨a, valV kvs k, rfl, .inl ⟨kvs, k, .inl (w4.fr.ih _ _ ha), rfl, rfl⟩, q _ H2 (.d (.bool (!(lk kds k).isSome))) g2 ⟨I, ls, w4.push (by rw [e]; exact .d (.bl _))⟩ ⟨_, rfl, pp⟩⟩
def t_law_within (K : PySem.W.Frag) (wd : PySem.World) : TS := (tRet (tAndV (tCB (rIsi K) (tCons (tVar 0) (tCons (tC (.ty "int")) tNil))) (tAndV (tNotV (tCB (rIsi K) (tCons (tVar 0) (tCons (tC (.ty "bool")) tNil)))) (tChain (rI0 fun i j => V.bl (decide (i ≤ j))) (rI0 fun i j => V.bl (decide (i ≤ j))) (tVar 1) (tVar 0) (tVar 2)))))
theorem go_law_within (ss : List SV) (g : List Cell) (post : D → List Cell → Prop) (h : R_law_within ss g post) : GoS K g.length (t_law_within K wd) (ss ++ List.replicate (3 - ss.length) .no) g (KF g.length post) := by
  obtain ⟨d, lo, hi, rfl, rfl, p⟩ := h
  unfold t_law_within
  have no : wholeB d = false → post (.bool false) [] := fun e => by
    have : numB d lo hi = false := by
      cases d with
      | int i => cases e
      | _ => rfl
    rw [this] at p
    exact p
  refine gs_ret (gd_and (gd_isi (by simp) (gd_var rfl ⟨_, rfl, fun hb => ?_, fun hb => ⟨_, rfl, no (isa_whole0 hb)⟩⟩)))
  refine gd_and (gd_not (gd_isi (by simp) (gd_var rfl ⟨_, rfl, _, rfl, fun hb2 => ?_, fun hb2 => ⟨_, rfl, no (by rw [← isa_whole hb]; exact hb2)⟩⟩)))
  rw [isa_whole hb] at hb2
  obtain ⟨i, rfl⟩ := whole_int hb2
  refine gd_chain (gd_var rfl (gd_var rfl (opd_le ⟨_, rfl, fun h1 => gd_var rfl (opd_le ⟨_, rfl, ?_⟩), fun h1 => ⟨_, rfl, ?_⟩⟩)))
  · have e : numB (.int i) lo hi = decide (i ≤ hi) := by
      show (decide (lo ≤ i) && decide (i ≤ hi)) = _
      rw [h1, Bool.true_and]
    rw [e] at p
    exact p
  · have e : numB (.int i) lo hi = false := by
      show (decide (lo ≤ i) && decide (i ≤ hi)) = _
      rw [h1, Bool.false_and]
    rw [e] at p
    exact p
def t_law_is_plan (K : PySem.W.Frag) (wd : PySem.World) : TS := (tSeq (tAsg (tCB (rDictP K) (tCons (tLc (iTup K (tVar 0)) (gName 5) tYes (tTup (tCons (tOp (rIx K) (tVar 5) (tC (.int 0))) (tCons (tVar 5) tNil))) [5]) tNil)) (gName 2)) (tSeq (tIfS (tNot (tB (tCB (rIsi K) (tCons (tVar 1) (tCons (tC (.ty "tuple")) tNil))))) (tRet (tC (.bl false))) tNext) (tSeq (tFor (iTup K (tVar 1)) (gName 3) (tSeq (tIfS (tOr (tNot (tB (tCB (rIsi K) (tCons (tVar 3) (tCons (tC (.ty "tuple")) tNil))))) (tOr (tTest (tOp (rNeD K) (tCB (rLenA K) (tCons (tVar 3) tNil)) (tC (.int 3)))) (tNot (tB (tCall (spOf K R_law_within) [] E0 (tCons (tOp (rIx K) (tVar 3) (tC (.int 0))) (tCons (tC (.int 0)) (tCons (tC (.int 2000)) tNil)))))))) (tRet (tC (.bl false))) tNext) (tSeq (tIfS (tOr (tNot (tB (tCB (rIsi K) (tCons (tOp (rIx K) (tVar 3) (tC (.int 1))) (tCons (tC (.ty "str")) tNil))))) (tOr (tTest (tDNotIn (tOp (rIx K) (tVar 3) (tC (.int 1))) (tVar 2))) (tNot (tB (tCall (spOf K R_law_whole) [] E0 (tCons (tOp (rIx K) (tVar 3) (tC (.int 2))) tNil)))))) (tRet (tC (.bl false))) tNext) (tIfS (tOr (tTest (tOp (rIn K true) (tOp (rIx K) (tVar 3) (tC (.int 2))) (tOp (rIx K) (tDGet (tVar 2) (tOp (rIx K) (tVar 3) (tC (.int 1)))) (tC (.int 4))))) (tTest (tOp (rI0 fun i j => V.bl (decide (i < j))) (tOp (rIx K) (tVar 3) (tC (.int 0))) (tOp (rIx K) (tDGet (tVar 2) (tOp (rIx K) (tVar 3) (tC (.int 1)))) (tC (.int 5)))))) (tRet (tC (.bl false))) tNext)))) (tSeq (tAsg (tLc (iTup K (tVar 1)) (gName 3) tYes (tOp (rIx K) (tVar 3) (tC (.int 1))) [3]) (gName 4)) (tRet (tAndV (tOp (rEqD K) (tCB (rLenTab wd) (tCons (tCB (rSetOf K wd) (tCons (tVar 4) tNil)) tNil)) (tCB (rLenA K) (tCons (tVar 4) tNil))) (tOp (rEqD K) (tCB (rListA K) (tCons (tVar 1) tNil)) (tCB (rSortedU K) (tCons (tVar 1) tNil)))))))))
theorem go_law_is_plan (ss : List SV) (g : List Cell) (post : D → List Cell → Prop) (h : R_law_is_plan ss g post) : GoS K g.length (t_law_is_plan K wd) (ss ++ List.replicate (6 - ss.length) .no) g (KF g.length post) := by
  obtain ⟨cs, d, rfl, rfl, nd, l8, okn, hln, p⟩ := h
  unfold t_law_is_plan
  have no : planB cs d = false → post (.bool false) [] := fun e => by rw [e] at p; exact p
  refine gs_seq (gs_asgD (gd_cb (r := rDictP K) (gs_cons (gd_mapT encC encCt mg_name (ij_name (by simp)) (gi_tup (gd_var rfl ⟨_, rfl, cs, rfl, by omega, fun i c hc => gg_name ?_, ?_⟩))))))
  · (repeat (walk_at "g"))
    refine opd_ixT (d := .str c.nm) rfl ?_
    (repeat (walk_at "g"))
    exact ⟨by show 2 ≤ 100000; decide, rfl, rfl⟩
  rw [enc_pr]
  refine gs_nil (opd_dict ?_)
  refine gs_seq (gs_if (gt_not (gt_B (gd_isi (by simp) (gd_var rfl ⟨_, rfl, fun hb => gs_ret (gd_bl ⟨_, rfl, no ?_⟩), fun hb => gs_next ?_⟩)))))
  · cases d with
    | tuple xs => exact absurd hb (by simp [isaD, isaN, tyN])
    | _ => rfl
  obtain ⟨xs, rfl⟩ := isa_tuple (d := d) (by simpa using hb)
  have hl := hln xs rfl
  refine gs_seq (gs_for (gi_tup (gd_var rfl ⟨xs, rfl, ?_⟩)))
  refine ⟨fun i ρ g => ∃ (x3 : SV), ρ = [.d (encCs cs), .d (.tuple xs), .d (dct (dictC cs)), x3, .no, .no] ∧ g = [] ∧ ∀ x ∈ xs.take i, rowB cs x = true, ⟨.no, rfl, rfl, fun x z => absurd z (by simp)⟩, fun i x ρ' g' hi ⟨x3, e1, e2, hx⟩ _ => ?_, fun ρ' g' ⟨x3, e1, e2, hx⟩ _ => ?_⟩
  · subst e1 e2
    have mx : x ∈ xs := List.mem_of_getElem? hi
    have bad : rowB cs x = false → post (.bool false) [] := fun e => no (by
      show (_ && ((xs.all (rowB cs)) && _)) = false
      have : (xs.all (rowB cs)) = false := by
        rw [Bool.eq_false_iff]
        intro z
        rw [List.all_eq_true.mp z x mx] at e
        cases e
      rw [this, Bool.false_and, Bool.and_false])
    refine gg_name (gs_seq (gs_if (gt_or (gt_not (gt_B (gd_isi (by simp) (gd_var rfl ⟨_, rfl, fun hb => ?_, fun hb => ⟨fun _ => gs_ret (gd_bl ⟨_, rfl, _, rfl, bad ?_⟩), fun z => nomatch z⟩⟩)))))))
    rotate_left
    · cases x with
      | tuple xs => exact absurd hb (by simp [isaD, isaN, tyN])
      | _ => rfl
    obtain ⟨ys, rfl⟩ := isa_tuple (d := x) (by simpa using hb)
    refine gt_or (gt_test (gd_op (gd_cb (r := rLenA K) (gs_cons (gd_var rfl (gs_nil (opd_lenT (gd_int (opd_ne rfl rfl ⟨_, rfl, fun hl => ?_, fun hl => ⟨fun _ => gs_ret (gd_bl ⟨_, rfl, _, rfl, bad ?_⟩), fun z => nomatch z⟩⟩)))))))))
    rotate_left
    · refine row_tup ?_
      have e : PyData.eqv (.int (ys.length : Int)) (.int 3) = false := not_tt hl
      rw [eqvI] at e
      have := of_decide_eq_false e
      show (decide ((3 : Int) ≤ (ys.length : Int)) && decide ((ys.length : Int) ≤ 3)) = false
      rw [← Bool.decide_and]
      exact decide_eq_false (by omega)
    have hl3 : ys.length = 3 := by
      have e : PyData.eqv (.int (ys.length : Int)) (.int 3) = true := not_ff hl
      rw [eqvI] at e
      have := of_decide_eq_true e
      omega
    obtain ⟨a, b, c, rfl⟩ : ∃ a b c, ys = [a, b, c] := by
      match ys, hl3 with
      | [a, b, c], _ => exact ⟨a, b, c, rfl⟩
    have bad3 : rowB3 cs a b c = false → post (.bool false) [] := bad
    refine gt_not (gt_B (gd_call (gs_cons (gd_op (gd_var rfl (gd_int (opd_ixT (d := a) rfl (gs_cons (gd_int (gs_cons (gd_int (gs_nil ⟨a, 0, 2000, rfl, rfl, _, rfl, fun hw => gs_ret (gd_bl ⟨_, rfl, _, rfl, bad3 ?_⟩), fun hw => gs_next ?_⟩))))))))))))
    · have hw := not_tt hw
      unfold rowB3
      split
      · split
        · rfl
        · rw [hw, Bool.false_and, Bool.and_false]
      · rfl
    have hw := not_ff hw
    refine gs_seq (gs_if (gt_or (gt_not (gt_B (gd_isi (by simp) (gd_op (gd_var rfl (gd_int (opd_ixT (d := b) rfl ⟨_, rfl, fun hb => ?_, fun hb => ⟨fun _ => gs_ret (gd_bl ⟨_, rfl, _, rfl, bad3 ?_⟩), fun z => nomatch z⟩⟩)))))))))
    rotate_left
    · cases b with
      | str x => exact absurd hb (by simp [isaD, isaN, tyN])
      | _ => rfl
    obtain ⟨nm, rfl⟩ := isa_str (d := b) (by simpa using hb)
    refine gt_or (gt_test (gd_dnin (gd_op (gd_var rfl (gd_int (opd_ixT (d := .str nm) rfl (gd_var rfl ⟨dictC cs, .inr nm, rfl, rfl, _, rfl, fun hk => ?_, fun hk => ⟨fun _ => gs_ret (gd_bl ⟨_, rfl, _, rfl, bad3 ?_⟩), fun z => nomatch z⟩⟩)))))))
    rotate_left
    · have hk := not_tt hk
      rw [lk_find nd] at hk
      refine row_none ?_
      cases z : findC cs nm with
      | none => rfl
      | some c => rw [z] at hk; cases hk
    have hk := not_ff hk
    rw [lk_find nd] at hk
    obtain ⟨cc, hcc⟩ : ∃ cc, findC cs nm = some cc := by
      cases z : findC cs nm with
      | none => rw [z] at hk; cases hk
      | some c => exact ⟨c, rfl⟩
    have hlk : lk (dictC cs) (.inr nm) = some (encC cc) := by rw [lk_find nd, hcc]; rfl
    refine gt_not (gt_B (gd_call (gs_cons (gd_op (gd_var rfl (gd_int (opd_ixT (d := c) rfl (gs_nil ⟨c, rfl, rfl, _, rfl, fun hc => gs_ret (gd_bl ⟨_, rfl, _, rfl, bad3 ?_⟩), fun hc => gs_next ?_⟩))))))))
    · have hc := not_tt hc
      cases c with
      | int i => cases hc
      | _ => rfl
    obtain ⟨rm, rfl⟩ := whole_int (not_ff hc)
    obtain ⟨st, rfl⟩ : ∃ i, a = .int i := by
      cases a with
      | int i => exact ⟨i, rfl⟩
      | _ => cases hw
    have erow : rowB3 cs (.int st) (.str nm) (.int rm) = ((cc.pl.any fun r => r == rm) && decide (cc.fi ≤ st)) := by
      have e : rowB3 cs (.int st) (.str nm) (.int rm) = ((cc.pl.any fun r => r == rm) && (numB (.int st) 0 2000 && geB (.int st) cc.fi)) := by simp only [rowB3, hcc]
      rw [e, hw, Bool.true_and]
      rfl
    have ein : ((cc.pl.map PyData.int).any fun y => PyData.eqv y (.int rm)) = cc.pl.any fun r => r == rm := by
      rw [List.any_map]
      rfl
    refine gs_if (gt_or (gt_test (gd_op (gd_op (gd_var rfl (gd_int (opd_ixT (d := .int rm) rfl (gd_op (gd_dget (gd_var rfl ⟨dictC cs, rfl, gd_op (gd_var rfl (gd_int (opd_ixT (d := .str nm) rfl ⟨.inr nm, encC cc, rfl, hlk, gd_int (opd_ixT (d := .tuple (cc.pl.map PyData.int)) rfl (opd_inT rfl (by rw [List.all_map]; exact List.all_eq_true.mpr fun _ _ => rfl) ⟨_, rfl, fun h1 => ?_, fun h1 => ⟨fun _ => gs_ret (gd_bl ⟨_, rfl, _, rfl, bad3 ?_⟩), fun z => nomatch z⟩⟩))⟩)))⟩))))))))))
    rotate_left
    · rw [if_pos rfl, ein] at h1
      rw [erow, not_tt h1, Bool.false_and]
    rw [if_pos rfl, ein] at h1
    refine gt_test (gd_op (gd_op (gd_var rfl (gd_int (opd_ixT (d := .int st) rfl (gd_op (gd_dget (gd_var rfl ⟨dictC cs, rfl, gd_op (gd_var rfl (gd_int (opd_ixT (d := .str nm) rfl ⟨.inr nm, encC cc, rfl, hlk, gd_int (opd_ixT (d := .int cc.fi) rfl (opd_lt ⟨_, rfl, fun h2 => gs_ret (gd_bl ⟨_, rfl, _, rfl, bad3 ?_⟩), fun h2 => gs_next ⟨_, rfl, rfl, fun x hx2 => ?_⟩⟩))⟩)))⟩))))))))
    · rw [erow, decide_eq_false (show ¬ cc.fi ≤ st by have := of_decide_eq_true h2; omega), Bool.and_false]
    · rw [List.take_add_one, hi] at hx2
      rcases List.mem_append.mp hx2 with z | z
      · exact hx x z
      · have z : x = .tuple [.int st, .str nm, .int rm] := by simpa using z
        rw [z]
        show rowB3 cs (.int st) (.str nm) (.int rm) = true
        rw [erow, not_ff h1, decide_eq_true (show cc.fi ≤ st by have := of_decide_eq_false h2; omega)]
        rfl
  subst e1 e2
  rw [List.take_length] at hx
  have h4 : xs.all (rowB cs) = true := List.all_eq_true.mpr hx
  obtain ⟨rs, rfl, hrs⟩ := rows_of h4
  rw [List.length_map] at hl
  have okr : ∀ r ∈ rs, okS r.nm := fun r hr => by
    obtain ⟨c, hc, e, _⟩ := hrs r hr
    rw [← e]
    exact okn c hc
  have ep : planB cs (.tuple (rs.map encR)) = (decide (rs.length ≤ cs.length) && (risB (rs.map encR) && decide (rs.map (·.nm)).Nodup)) := by
    show (decide ((rs.map encR).length ≤ cs.length) && ((rs.map encR).all (rowB cs) && (risB (rs.map encR) && decide (((rs.map encR).map rowNm).Nodup)))) = _
    rw [rowNm_map, List.length_map, h4, Bool.true_and]
  rw [ep] at p
  refine gs_seq (gs_asgD (gd_mapT encR encNm mg_name (ij_name (by simp)) (gi_tup (gd_var rfl ⟨_, rfl, rs, rfl, by omega, fun i r hr => gg_name (gd_op (gd_var rfl (gd_int (opd_ixT (d := .str r.nm) rfl ⟨rfl, rfl⟩)))), ?_⟩))))
  have ek : rs.map encNm = (rs.map fun r => (Sum.inr r.nm : Key)).map kD := by rw [List.map_map]; rfl
  refine gs_ret (gd_and (gd_op (gd_lenset (gd_var rfl ⟨rs.map fun r => (Sum.inr r.nm : Key), by rw [ek], by rw [List.length_map]; omega, fun ks0 nd0 hm => ?_⟩))))
  have e5 : PyData.eqv (.int (ks0.length : Nat)) (.int ((rs.map encNm).length : Nat)) = decide (rs.map (·.nm)).Nodup := by
    rw [List.length_map]
    have h6 := nodup_len nd0 hm
    rw [List.length_map] at h6
    have h7 : decide (rs.map fun r => (Sum.inr r.nm : Key)).Nodup = decide (rs.map (·.nm)).Nodup := by
      have : (rs.map fun r => (Sum.inr r.nm : Key)) = (rs.map (·.nm)).map Sum.inr := by rw [List.map_map]; rfl
      rw [this]
      refine decide_eq_decide.mpr ⟨fun z => List.Pairwise.of_map (Sum.inr : Str → Key) (fun a b hne e => hne (congrArg _ e)) z, fun z => List.Pairwise.map _ (fun a b hne e => hne (Sum.inr.inj e)) z⟩
    rw [← h7, ← h6]
    exact eqv_nats _ _
  refine gd_cb (r := rLenA K) (gs_cons (gd_var rfl (gs_nil (opd_lenL (opd_eq rfl rfl ?_)))))
  rw [e5]
  refine ⟨_, rfl, fun h5 => ?_, fun h5 => ⟨_, rfl, ?_⟩⟩
  · have nd5 := of_decide_eq_true h5
    have lnn : rs.length ≤ cs.length := by
      have := nd_len (l := rs.map (·.nm)) (ks := cs.map (·.nm)) nd5 fun x hx => by
        obtain ⟨r, hr, rfl⟩ := List.mem_map.mp hx
        obtain ⟨c, hc, e, _⟩ := hrs r hr
        exact List.mem_map.mpr ⟨c, hc, e⟩
      rw [List.length_map, List.length_map] at this
      exact this
    rw [h5, decide_eq_true lnn, Bool.true_and, Bool.and_true] at p
    have sh : ∀ l : List Rw, (∀ r ∈ l, okS r.nm) → SeqAt.shaped (.list (l.map encR)) = true := fun l hl => by
      exact shapedL encR (fun r hr => lay_row (hl r hr)) fun r _ => Nat.le_trans (depth_row r) (by decide)
    refine gd_op (gd_cb (r := rListA K) (gs_cons (gd_var rfl (gs_nil (opd_listE (.inr rfl) (gd_cb (r := rSortedU K) (gs_cons (gd_var rfl (gs_nil (opd_sortedU (alike_rows rs) (PySem.W.Sortable.tuples fun r => ⟨_, _, rfl⟩) (fun d hd => ?_) ?_))))))))))
    · obtain ⟨r, hr, rfl⟩ := List.mem_map.mp hd
      exact ⟨lay_row (okr r hr), depth_row r⟩
    · rw [sort_rows]
      refine opd_eq (sh rs okr) (sh _ fun r hr => okr r ((List.mergeSort_perm _ _).mem_iff.mp hr)) ⟨_, rfl, ?_⟩
      rw [sort_ris nd5 okr (sh rs okr)]
      exact p
  · rw [h5, Bool.and_false, Bool.and_false] at p
    exact p
end
end Go
namespace Go
open PySem PySem.Spec PyProof.Rows L2 SetMix ZipE
open Evl (Ex)
local macro_rules | `(tactic| walk_at "g") => `(tactic| first
  | ((with_reducible refine gd_var (d := ?dd) ?hv ?_); (case hv => exact rfl))
  | ((with_reducible refine gd_ixScr (ns := ?ns) ?hv ?_); (case hv => exact rfl))
  | ((with_reducible refine gd_ixCel (j := ?jj) ?hv ?_); (case hv => exact rfl))
  | ((with_reducible refine gd_lenScr (ns := ?ns) ?hv ?_); (case hv => exact rfl))
  | with_reducible first
    | refine gs_seq ?_ | refine gs_next ?_ | refine gs_ret ?_ | refine gs_asgD ?_ | refine gs_if ?_
    | refine gt_test ?_ | refine gt_B ?_ | refine gt_and ?_ | refine gt_or ?_ | refine gt_not ?_ | refine gt_yes ?_
    | refine gd_int ?_ | refine gd_str ?_ | refine gd_bl ?_ | refine gd_non ?_
    | refine gd_op ?_ | refine gd_tup ?_ | refine gd_lst ?_
    | refine gd_cb (r := rLenA _) ?_ | refine gd_cb (r := rTupleA _) ?_ | refine gd_cb (r := rAbsA) ?_ | refine gd_cb (r := rMax2A) ?_ | refine gd_cb (r := rMin2A) ?_ | refine gd_cb (r := rIntA) ?_ | refine gd_cb (r := rAny _) ?_ | refine gd_cb (r := rAll _) ?_ | refine gd_cb (r := rDictP _) ?_ | refine gd_cb (r := rMax _) ?_ | refine gd_cb (r := rMin _) ?_
    | refine gs_cons ?_ | refine gs_nil ?_ | refine gd_dget ?_
    | refine gd_and ?_ | refine gd_or ?_ | refine gd_not ?_
    | refine opd_addI ?_ | refine opd_sub ?_ | refine opd_lt ?_ | refine opd_le ?_ | refine opd_gt ?_ | refine opd_ge ?_
    | refine opd_lenL ?_ | refine opd_lenT ?_ | refine opd_tupleL ?_ | refine opd_tupleT ?_ | refine opd_max2 ?_ | refine opd_min2 ?_ | refine opd_abs ?_ | refine opd_intB ?_
    | refine Exists.intro _ (And.intro rfl ?_))
def XL (d : D) : Prop := ∀ xs, d = .tuple xs → xs.length ≤ 1000
theorem xl_tup {xs : List D} (h : xs.length ≤ 1000) : XL (.tuple xs) := fun ys e => by cases e; exact h
theorem xl_sb {n q : Nat} {d : D} (hn : n ≤ 10) (h : SB n q d) : XL d := fun ys e => by
  subst e
  cases h with
  | tup a _ => omega
theorem xl_cons {x : D} {xs : List D} (h : XL x) (t : ∀ d ∈ xs, XL d) : ∀ d ∈ x :: xs, XL d := fun d hd => by
  rcases List.mem_cons.mp hd with e | e
  · rw [e]; exact h
  · exact t d e
theorem eight_len : ∀ x ∈ eight, x.length ≤ 100 := by unfold eight; decide +kernel
def encF (r : Rw) : D := encR ⟨r.st - 1, r.nm, r.rm⟩
def R_law02 : RSpec := fun ss g post => ∃ ns : List Int, ss = [.s ns] ∧ g = [] ∧ post (.bool true) []
section
variable {K : PySem.W.Frag} {wd : PySem.World}
def t_law02 (K : PySem.W.Frag) (wd : PySem.World) : TS := (tSeq (tFor (iRng1 (tCons (tOp (rAddA K) (tC (.int 1)) (tCB rMin2A (tCons (tCB (rLenA K) (tCons (tVar 0) tNil)) (tCons (tC (.int 30)) tNil)))) tNil)) (gName 1) (tSeq (tAsg (tCall (spNew K R_law_bag) [] E0 (tCons (tVar 0) (tCons (tVar 1) tNil))) (gName 2)) (tSeq (tAsg (tCall (spOf K R_law_drawn) [] E0 (tCons (tVar 2) (tCons (tC (.int 8)) tNil))) (gTup K 3 (gCons (gName 8) (gCons (gName 9) (gCons (gName 10) gNil))))) (tSeq (tAsg (tCall (spOf K R_law_plan) [] E0 (tCons (tVar 2) (tCons (tCall (spOf K R_law_cases) [] E0 (tCons (tVar 2) (tCons (tVar 8) (tCons (tC (.int 8)) tNil)))) tNil))) (gName 3)) (tSeq (tAsg (tCB (rTupleA K) (tCons (tLc (iTup K (tVar 10)) (gName 12) tYes (tOp (rAddA K) (tTup (tCons (tOp (rIx K) (tLst (tCons (tC (.int 2000)) (tCons (tC (.int 2001)) tNil))) (tCall (spOf K R_law_take) [] E0 (tCons (tVar 2) (tCons (tC (.int 2)) tNil)))) tNil)) (tSl (rSlA K) (tVar 12) (tPart (tC (.int 1))) tNoPart)) [12]) tNil)) (gName 4)) (tSeq (tAsg (tCB (rTupleA K) (tCons (tLc (iTup K (tVar 10)) (gName 12) tYes (tOp (rAddA K) (tTup (tCons (tOp (rI0 fun i j => V.int (i - j)) (tOp (rIx K) (tVar 12) (tC (.int 0))) (tC (.int 1))) tNil)) (tSl (rSlA K) (tVar 12) (tPart (tC (.int 1))) tNoPart)) [12]) tNil)) (gName 5)) (tSeq (tFor (iList K (tLst (tCons (tVar 3) (tCons (tCB (rTupleA K) (tCons (tCB (rSortedU K) (tCons (tVar 4) tNil)) tNil)) (tCons (tVar 5) (tCons (tRevT K (tVar 10)) (tCons (tOp (rAddA K) (tVar 10) (tSl (rSlA K) (tVar 10) (tPart (tUn (rU fun i => .int (-i)) (tC (.int 1)))) tNoPart)) (tCons (tCall (spOf K R_law_odd) [] E0 (tCons (tVar 2) tNil)) (tCons (tTup tNil) tNil))))))))) (gName 6) (tIfS (tTest (tOp (rNeD K) (tCall (spOf K Ris_plan) [] E0 (tCons (tVar 9) (tCons (tVar 6) tNil))) (tCall (spOf K R_law_is_plan) [] E0 (tCons (tVar 9) (tCons (tVar 6) tNil))))) (tRet (tC (.bl false))) tNext)) (tSeq (tAsg (tVar 10) (gName 6)) (tFor (iRng1 (tCons (tC (.int 6)) tNil)) (gName 7) (tSeq (tAsg (tCall (spOf K Ris_plan) [] E0 (tCons (tVar 9) (tCons (tVar 6) tNil))) (gName 11)) (tSeq (tIfS (tOr (tNot (tB (tCB (rIsi K) (tCons (tVar 11) (tCons (tC (.ty "bool")) tNil))))) (tTest (tOp (rNeD K) (tVar 11) (tCall (spOf K R_law_is_plan) [] E0 (tCons (tVar 9) (tCons (tVar 6) tNil)))))) (tRet (tC (.bl false))) tNext) (tAsg (tCall (spOf K (R_law_spoilt 30)) [] E0 (tCons (tVar 2) (tCons (tVar 6) tNil))) (gName 6))))))))))))) (tRet (tC (.bl true))))
theorem go_law02 (ss : List SV) (g : List Cell) (post : D → List Cell → Prop) (h : R_law02 ss g post) : GoS K g.length (t_law02 K wd) (ss ++ List.replicate (13 - ss.length) .no) g (KF g.length post) := by
  obtain ⟨ns, rfl, rfl, p⟩ := h
  unfold t_law02
  refine gs_seq (gs_for (gi_rng1 ?_))
  (repeat (walk_at "g"))
  have hle : (if (30 : Int) < (ns.length : Int) then 30 else (ns.length : Int)) ≤ 30 ∧ 0 ≤ (if (30 : Int) < (ns.length : Int) then 30 else (ns.length : Int)) := by split <;> omega
  refine ⟨by omega, by omega, ?_⟩
  refine ⟨fun i ρ g => ∃ x1 x2 x3 x4 x5 x6 x7 x8 x9 y0 y1 : SV, ρ = [.s ns, x1, x2, x3, x4, x5, x6, x7, x8, x9, y0, y1, .no] ∧ g = [], ⟨.no, .no, .no, .no, .no, .no, .no, .no, .no, .no, .no, rfl, rfl⟩, fun k d ρ' g' hi ⟨x1, x2, x3, x4, x5, x6, x7, x8, x9, y0, y1, e1, e2⟩ _ => ?_, fun ρ' g' ⟨x1, x2, x3, x4, x5, x6, x7, x8, x9, y0, y1, e1, e2⟩ _ => ?_⟩
  · subst e1 e2
    obtain ⟨rfl, lkk⟩ := rng_at hi
    refine gg_name (gs_seq (gs_asg (ge_callN (ga_cons (ge_var rfl (fun z => nomatch z) (ga_cons (ge_var rfl (fun z => nomatch z) (ga_nil ⟨noC2, ns, k, rfl, by omega, fun b hb => ?_⟩))))))))
    refine gs_seq (gs_asgG (gd_bag rfl (gs_cons (gd_int (gs_nil ⟨b, rfl, b, 8, rfl, rfl, hb, by decide, fun h cs pl b1 hH hC _ hP hb1 => ⟨b1, rfl, gg3 ?_⟩⟩)))))
    have ok : OkP cs pl := okP_of hH hC hP
    have l8 := ok.lp
    have okr : ∀ r ∈ pl, okS r.nm := fun r hr => by
      obtain ⟨c, hc, e⟩ := ok.mem r hr
      rw [← e]
      exact ok.okn c hc
    refine gs_seq (gs_asgD (gd_bag rfl (gs_cons (gd_bag rfl (gs_cons (gd_var rfl (gs_cons (gd_int (gs_nil ⟨b1, rfl, b1, h, 8, rfl, rfl, hb1, hH, by decide, fun cs2 b2 hC2 _ hb2 => ⟨b2, rfl, gs_nil ⟨b2, rfl, b2, h, cs2, rfl, rfl, hb2, hC2, fun pl2 b3 hP2 hb3 => ⟨b3, rfl, ?_⟩⟩⟩⟩)))))))))
    have l2 : pl2.length ≤ 8 := Nat.le_trans hP2.ln hC2.l8
    -- far
    refine gs_seq (gs_asgD (gd_cb (r := rTupleA K) (gs_cons (gd_lc mg_name (ij_name (by simp)) (gi_tup (gd_var rfl ⟨_, rfl, by rw [List.length_map]; omega, ?_⟩))))))
    refine ⟨fun i acc g => ∃ (b : List D) (rs : List Rw), acc = rs.map encR ∧ g = [some b] ∧ Bag b ∧ rs.length = i ∧ ∀ r ∈ rs, okS r.nm, ⟨b3, [], rfl, rfl, hb3, rfl, fun _ z => nomatch z⟩, fun i d acc g2 hi ⟨b, rs, e1, e2, hb, hl, hr⟩ => ?_, fun acc g2 ⟨b4, rs, e1, e2, hb4, hl, hr⟩ => ?_⟩
    · subst e1 e2
      obtain ⟨r, hri, rfl⟩ := at_map hi
      have mr : r ∈ pl := List.mem_of_getElem? hri
      refine gg_name (gt_yes ⟨fun _ => ?_, fun z => nomatch z⟩)
      refine gd_op (gd_tup (gs_cons (gd_op (gd_lst (gs_cons (gd_int (gs_cons (gd_int (gs_nil ⟨by simp, gd_take rfl (gd_int ⟨2, b, rfl, rfl, hb, by decide, by decide, fun t b5 t0 t1 hb5 => opd_pick t0 (by show t < 2; exact t1) fun d hd => gs_nil ⟨by simp, ?_⟩⟩)⟩)))))))))
      obtain ⟨s, rfl⟩ : ∃ s : Int, d = .int s := by
        have hd' : d = .int 2000 ∨ d = .int 2001 := by simpa using hd
        rcases hd' with rfl | rfl
        · exact ⟨_, rfl⟩
        · exact ⟨_, rfl⟩
      refine gd_slT (gd_var rfl ⟨_, rfl, go_some (gd_int ⟨1, rfl, go_none (opd_addT (by show 1 + 2 ≤ 100000; decide) ⟨rfl, b5, rs ++ [⟨s, r.nm, r.rm⟩], ?_, rfl, hb5, by rw [List.length_append, hl]; rfl, fun q hq => ?_⟩)⟩)⟩)
      · rw [List.map_append]
        rfl
      · rcases List.mem_append.mp hq with z | z
        · exact hr q z
        · rw [List.mem_singleton] at z; rw [z]; exact okr r mr
    subst e1 e2
    rw [List.length_map] at hl
    refine gs_nil (opd_tupleL ?_)
    -- early
    refine gs_seq (gs_asgD (gd_cb (r := rTupleA K) (gs_cons (gd_mapT encR encF mg_name (ij_name (by simp)) (gi_tup (gd_var rfl ⟨_, rfl, pl, rfl, by omega, fun i r hr => gg_name ?_, gs_nil (opd_tupleL ?_)⟩))))))
    · exact gd_op (gd_tup (gs_cons (gd_op (gd_op (gd_var rfl (gd_int (opd_ixT (d := .int r.st) rfl (gd_int (opd_sub (gs_nil ⟨by simp, gd_slT (gd_var rfl ⟨_, rfl, go_some (gd_int ⟨1, rfl, go_none (opd_addT (by show 1 + 2 ≤ 100000; decide) ⟨rfl, rfl⟩)⟩)⟩)⟩))))))))))
    refine gs_seq (gs_for (gi_list (gd_lst (gs_cons (gd_var rfl (gs_cons (gd_cb (r := rTupleA K) (gs_cons (gd_cb (r := rSortedU K) (gs_cons (gd_var rfl (gs_nil (opd_sortedU (alike_rows rs) (PySem.W.Sortable.tuples fun r => ⟨_, _, rfl⟩) (fun d hd => ?_) ?_)))))))))))))
    · obtain ⟨r, hr2, rfl⟩ := List.mem_map.mp hd
      exact ⟨lay_row (hr r hr2), depth_row r⟩
    rw [sort_rows]
    have ls : (rs.mergeSort (PySem.W.dataLe false encR)).length = rs.length := (List.mergeSort_perm _ _).length_eq
    refine gs_nil (opd_tupleL (gs_cons (gd_var rfl (gs_cons (gd_revT (gd_var rfl ⟨_, rfl, gs_cons (gd_op (gd_var rfl (gd_slT (gd_var rfl ⟨_, rfl, go_some (gd_un (gd_int (opd_neg ⟨_, rfl, go_none (opd_addT ?_ ?_)⟩)))⟩))))⟩))))))
    · have := len_cutD (pl.map encR) (some (-1)) none
      rw [List.length_map] at this ⊢
      omega
    refine gs_cons (gd_bag rfl (gs_nil ⟨b4, rfl, b4, rfl, rfl, hb4, fun od b5 hod hb5 => ⟨b5, rfl, gs_cons (gd_tup (gs_nil ⟨by decide, gs_nil ⟨by simp, _, rfl, ?_⟩⟩))⟩⟩))
    have all : ∀ d ∈ [encP pl2, .tuple ((rs.mergeSort (PySem.W.dataLe false encR)).map encR), .tuple (pl.map encF), .tuple (pl.map encR).reverse, .tuple (pl.map encR ++ cutD (pl.map encR) (some (-1)) none), od, .tuple []], XL d := by
      have lc := len_cutD (pl.map encR) (some (-1)) none
      rw [List.length_map] at lc
      refine xl_cons (xl_tup (by rw [List.length_map]; omega)) (xl_cons (xl_tup (by rw [List.length_map]; omega)) (xl_cons (xl_tup (by rw [List.length_map]; omega)) (xl_cons (xl_tup (by rw [List.length_reverse, List.length_map]; omega)) (xl_cons (xl_tup (by rw [List.length_append, List.length_map]; omega)) (xl_cons (xl_sb (by decide) hod) (xl_cons (xl_tup (by simp)) fun _ z => nomatch z))))))
    have nd := ok.nd
    have lc8 := ok.lc
    refine ⟨fun i ρ g => ∃ (x6 x7 y1 : SV) (b : List D), ρ = [.s ns, .d (.int (k : Int)), .c 0, .d (encP pl2), .d (.tuple (rs.map encR)), .d (.tuple (pl.map encF)), x6, x7, .d (encH h), .d (encCs cs), .d (encP pl), y1, .no] ∧ g = [some b] ∧ Bag b, ⟨_, _, _, b5, rfl, rfl, hb5⟩, fun i d ρ' g' hi ⟨x6, x7, y1, b, e1, e2, hb⟩ _ => ?_, fun ρ' g' ⟨x6, x7, y1, b, e1, e2, hb⟩ _ => ?_⟩
    · subst e1 e2
      have hd := all d (List.mem_of_getElem? hi)
      refine gg_name (gs_if (gt_test (gd_op (gd_call (gs_cons (gd_var rfl (gs_cons (gd_var rfl (gs_nil ⟨cs, d, rfl, rfl, nd, lc8, ok.okn, gd_call (gs_cons (gd_var rfl (gs_cons (gd_var rfl (gs_nil ⟨cs, d, rfl, rfl, nd, lc8, ok.okn, hd, opd_ne rfl rfl ⟨_, rfl, fun z => absurd z ?_, fun _ => gs_next ⟨_, _, _, b, rfl, rfl, hb⟩⟩⟩)))))⟩)))))))))
      cases planB cs d <;> decide
    subst e1 e2
    have sb0 : SB 0 3 (encP pl) := by
      refine (SB.tup (q := 1) (by rw [List.length_map]; omega) fun d hd => ?_).mono (Nat.le_refl _) (by decide)
      obtain ⟨r, hr2, rfl⟩ := List.mem_map.mp hd
      obtain ⟨c, hc, en, hrm, f1, f2⟩ := hP.al r hr2
      have gc := hC.al c hc
      have g1 := gc.f0
      have g2 := gc.f1
      have g3 := gc.pr _ hrm
      have g4 := hH.r4
      have ln : r.nm.length ≤ 100 := by
        rw [← en]
        exact eight_len _ (List.mem_of_mem_take (by rw [← hC.nm]; exact List.mem_map.mpr ⟨c, hc, rfl⟩))
      exact .tup (by show 3 ≤ 100; decide) (sb_cons (.int (by omega)) (sb_cons (.str (by omega)) (sb_cons (.int (by omega)) sb_nil)))
    refine gs_seq (gs_asgD (gd_var rfl ?_))
    refine gs_for (gi_rng1 (gs_cons (gd_int (gs_nil ⟨_, rfl, by decide, by decide, ?_⟩))))
    refine ⟨fun t ρ g => ∃ (x7 y1 : SV) (d : D) (b : List D), ρ = [.s ns, .d (.int (k : Int)), .c 0, .d (encP pl2), .d (.tuple (rs.map encR)), .d (.tuple (pl.map encF)), .d d, x7, .d (encH h), .d (encCs cs), .d (encP pl), y1, .no] ∧ g = [some b] ∧ Bag b ∧ SB t (3 + 3 * t) d, ⟨_, _, _, b, rfl, rfl, hb, sb0⟩, fun t d ρ' g' hi ⟨x7, y1, d2, b, e1, e2, hb, hd⟩ _ => ?_, fun ρ' g' ⟨x7, y1, d2, b, e1, e2, hb, hd⟩ _ => ?_⟩
    rotate_left
    · subst e1 e2
      exact ⟨_, _, _, _, _, _, _, _, _, _, _, rfl, rfl⟩
    subst e1 e2
    obtain ⟨rfl, lt6⟩ := rng_at hi
    have lt6 : t < 6 := lt6
    refine gg_name (gs_seq (gs_asgD (gd_call (gs_cons (gd_var rfl (gs_cons (gd_var rfl (gs_nil ⟨cs, d2, rfl, rfl, nd, lc8, ok.okn, ?_⟩))))))))
    refine gs_seq (gs_if (gt_or (gt_not (gt_B (gd_isi (by simp) (gd_var rfl ⟨_, rfl, fun _ => ?_, fun z => absurd z (by simp [isaD, isaN, tyN])⟩))))))
    refine gt_test (gd_op (gd_var rfl (gd_call (gs_cons (gd_var rfl (gs_cons (gd_var rfl (gs_nil ⟨cs, d2, rfl, rfl, nd, lc8, ok.okn, xl_sb (by omega) hd, opd_ne rfl rfl ⟨_, rfl, fun z => absurd z ?_, fun _ => gs_next ?_⟩⟩))))))))
    · cases planB cs d2 <;> decide
    · refine gs_asgD (gd_bag rfl (gs_cons (gd_var rfl (gs_nil ⟨b, rfl, b, t, 3 + 3 * t, d2, rfl, rfl, hb, by omega, (show 3 + 3 * t ≤ 29 by omega), hd, fun d' b' h' hb' => ⟨b', rfl, ?_⟩⟩))))
      exact ⟨_, _, _, b', rfl, rfl, hb', h'⟩
  · subst e1 e2
    exact gs_ret (gd_bl ⟨_, rfl, p⟩)
end
end Go
namespace Go
open PySem PySem.Spec PyProof.Rows L2 SetMix ZipE
open Evl (Ex)
local macro_rules | `(tactic| walk_at "g") => `(tactic| first
  | ((with_reducible refine gd_var (d := ?dd) ?hv ?_); (case hv => exact rfl))
  | ((with_reducible refine gd_ixScr (ns := ?ns) ?hv ?_); (case hv => exact rfl))
  | ((with_reducible refine gd_ixCel (j := ?jj) ?hv ?_); (case hv => exact rfl))
  | ((with_reducible refine gd_lenScr (ns := ?ns) ?hv ?_); (case hv => exact rfl))
  | with_reducible first
    | refine gs_seq ?_ | refine gs_next ?_ | refine gs_ret ?_ | refine gs_asgD ?_ | refine gs_if ?_
    | refine gt_test ?_ | refine gt_B ?_ | refine gt_and ?_ | refine gt_or ?_ | refine gt_not ?_ | refine gt_yes ?_
    | refine gd_int ?_ | refine gd_str ?_ | refine gd_bl ?_ | refine gd_non ?_
    | refine gd_op ?_ | refine gd_tup ?_ | refine gd_lst ?_
    | refine gd_cb (r := rLenA _) ?_ | refine gd_cb (r := rTupleA _) ?_ | refine gd_cb (r := rAbsA) ?_ | refine gd_cb (r := rMax2A) ?_ | refine gd_cb (r := rMin2A) ?_ | refine gd_cb (r := rIntA) ?_ | refine gd_cb (r := rAny _) ?_ | refine gd_cb (r := rAll _) ?_ | refine gd_cb (r := rDictP _) ?_ | refine gd_cb (r := rMax _) ?_ | refine gd_cb (r := rMin _) ?_
    | refine gs_cons ?_ | refine gs_nil ?_ | refine gd_dget ?_
    | refine gd_and ?_ | refine gd_or ?_ | refine gd_not ?_
    | refine opd_addI ?_ | refine opd_sub ?_ | refine opd_lt ?_ | refine opd_le ?_ | refine opd_gt ?_ | refine opd_ge ?_
    | refine opd_lenL ?_ | refine opd_lenT ?_ | refine opd_tupleL ?_ | refine opd_tupleT ?_ | refine opd_max2 ?_ | refine opd_min2 ?_ | refine opd_abs ?_ | refine opd_intB ?_
    | refine Exists.intro _ (And.intro rfl ?_))
/-! ### signs of a text -/
def rInSg : R2 := fun x y H Q => ∃ (c : Nat) (z : Str), x = .str ⟨#[c]⟩ ∧ y = .str z ∧ Q (.bl (decide (c ∈ z.cps.toList))) H
def rNotInSg : R2 := fun x y H Q => ∃ (c : Nat) (z : Str), x = .str ⟨#[c]⟩ ∧ y = .str z ∧ Q (.bl (!decide (c ∈ z.cps.toList))) H
theorem op_in_sign0 {X : Cx} : OpR X (compareOp .In) rInSg := op_in_sign
theorem op_notIn_sign0 {X : Cx} : OpR X (compareOp .NotIn) rNotInSg := op_notIn_sign
def rEqLen (K : PySem.W.Frag) : R2 := fun x y H Q => ∃ a b xs ys, x = .ref a ∧ y = .ref b ∧ SqL K H a xs ∧ SqL K H b ys ∧ xs.length ≠ ys.length ∧ Q (.bl false) H
def rEqN (K : PySem.W.Frag) : R2 := fun x y H Q => rEqD K x y H Q ∨ rEqLen K x y H Q
theorem op_eqLen {X : Cx} (hu : X.A.units < cLine) : OpR X (compareOp .Eq) (rEqLen X.K) := by
  intro pins s σ H x y v u Q I rx ry h
  obtain ⟨a, b, xs, ys, rfl, rfl, h1, h2, ne, q⟩ := h
  cases rx
  cases ry
  obtain ⟨i1, r1, p1, _⟩ := I.list h1
  obtain ⟨i2, r2, p2, _⟩ := I.list h2
  have e1 := r1.length
  have e2 := r2.length
  refine SeqAt.RcAt.lists_lengths p1.isList p2.isList ?_ hu _ _ _ _ ⟨.bl false, H, I, rfl, q⟩
  simp only [List.size_toArray, bne_iff_ne, ne_eq]
  omega
theorem op_eqN {X : Cx} (hu : X.A.units + 64 < cLine) : OpR X (compareOp .Eq) (rEqN X.K) := OpR.or (op_eqD hu) (op_eqLen (by omega))
def sgn (c : Nat) : D := .str ⟨#[c]⟩
def abc : Str := "abcdefghijklmnopqrstuvwxyz"
def smB (c : Nat) : Bool := decide (c ∈ abc.cps.toList)
def nameB (d : D) : Bool := match d with
  | .str x => (decide (1 ≤ x.length) && decide (x.length ≤ 8)) && x.cps.toList.all smB
  | _ => false
def Ris_name : RSpec := fun ss g post => ∃ d, ss = [.d d] ∧ g = [] ∧ (∀ x : Str, d = .str x → x.length ≤ 1000000) ∧ post (.bool (nameB d)) []
def R_law_is_name : RSpec := fun ss g post => ∃ d, ss = [.d d] ∧ g = [] ∧ (∀ x : Str, d = .str x → x.length ≤ 1000000) ∧ post (.bool (nameB d)) []
section
variable {K : PySem.W.Frag} {wd : PySem.World} {n : Nat} {ρ ts : List SV} {g : List Cell}
theorem opd_inSg {c : Nat} {z : Str} {post : D → Prop} (p : post (.bool (decide (c ∈ z.cps.toList)))) : OpD K (un2 rInSg) [sgn c, .str z] post := fun I H ws ex hw Q q => by
  obtain ⟨v, w, rfl, i1, i2⟩ := all2 hw
  cases is_str i1
  cases is_str i2
  exact ⟨_, _, rfl, c, z, rfl, rfl, out0 ex q (.bl _) p⟩
theorem opd_ninSg {c : Nat} {z : Str} {post : D → Prop} (p : post (.bool (!decide (c ∈ z.cps.toList)))) : OpD K (un2 rNotInSg) [sgn c, .str z] post := fun I H ws ex hw Q q => by
  obtain ⟨v, w, rfl, i1, i2⟩ := all2 hw
  cases is_str i1
  cases is_str i2
  exact ⟨_, _, rfl, c, z, rfl, rfl, out0 ex q (.bl _) p⟩
theorem opd_eqN {ds : List D} {post : D → Prop} (p : post (.bool ds.isEmpty)) : OpD K (un2 (rEqN K)) [.list ds, .list []] post := by
  cases ds with
  | nil => exact OpD.or1 (opd_eq rfl rfl p)
  | cons d ds =>
    refine OpD.or2 fun I H ws ex hw Q q => ?_
    obtain ⟨v, w, rfl, i1, i2⟩ := all2 hw
    obtain ⟨a, xs, rfl, hs, ha⟩ := is_list i1
    obtain ⟨b, ys, rfl, hs2, ha2⟩ := is_list i2
    have l1 := ha.length
    have l2 := ha2.length
    exact ⟨_, _, rfl, a, b, xs, ys, rfl, rfl, .inl (Evl.ex_rd ex hs), .inl (Evl.ex_rd ex hs2), by rw [l1, l2]; simp, out0 ex q (.bl _) p⟩
theorem opd_lenS2 {x : Str} {post : D → Prop} (hl : x.length ≤ 1000000) (p : post (.int x.length)) : OpD K (rLenA K) [.str x] post := fun I H ws ex hw Q q => by
  obtain ⟨v, rfl, i⟩ := all1 hw
  cases is_str i
  exact .inr ⟨x, rfl, by rw [sizeLine_eq]; omega, out0 ex q (.int _) p⟩
theorem walks_str {I : Hp} {x : Str} : Walks K I (Its x) (x.cps.toList.map sgn) := by
  have wk := walk_str (z := x)
  refine ⟨fun i I2 H2 e1 e2 hi => wk.goes i H2 (by rw [List.length_map, Array.length_toList] at hi; exact hi) trivial, fun I2 H2 e1 e2 => ?_, fun i d I2 H2 v H' e1 e2 hi y => ?_⟩
  · rw [List.length_map, Array.length_toList]; exact wk.stops H2 trivial
  · have hlt : i < x.cps.size := by
      have := (List.getElem?_eq_some_iff.mp hi).1
      rw [List.length_map, Array.length_toList] at this
      exact this
    obtain ⟨rfl, c, hc, rfl⟩ := wk.yields i H2 v H' hlt trivial y
    rw [List.getElem?_map, Array.getElem?_toList, hc] at hi
    cases hi
    exact ⟨I2, Fr.refl e2, .str _⟩
theorem gi_str {te : TE} {post : List D → List Cell → Prop} (h : GoD K n te ρ ts g fun d g1 => ∃ x : Str, d = .str x ∧ post (x.cps.toList.map sgn) g1) : GoI K n (iStr te) ρ ts g post := by
  intro I0 H0 bs σ vs H hn w R q
  refine h I0 H0 bs σ vs H hn w _ fun v H1 s g1 ⟨I, ls, w1⟩ ⟨d, e, x, e2, p⟩ => ?_
  subst e e2
  obtain ⟨w2, r⟩ := w1.pop
  cases r with
  | d i =>
    cases is_str i
    exact ⟨x, rfl, q _ H1 g1 _ I ls w2 walks_str p⟩
def encSm (c : Nat) : D := .bool (smB c)
theorem len_name {x : Str} (h : decide ((x.length : Int) ≤ 8) = true) : x.cps.toList.length ≤ 50000 := by
  have h := of_decide_eq_true h
  rw [Array.length_toList]
  have : x.length = x.cps.size := rfl
  omega
theorem dec_len (x : Str) : (decide ((1 : Int) ≤ (x.length : Int)) = decide (1 ≤ x.length)) ∧ (decide ((x.length : Int) ≤ 8) = decide (x.length ≤ 8)) := ⟨decide_eq_decide.mpr (by omega), decide_eq_decide.mpr (by omega)⟩
def tis_name (K : PySem.W.Frag) (wd : PySem.World) : TS := (tSeq (tIfS (tOr (tNot (tB (tCB (rIsi K) (tCons (tVar 0) (tCons (tC (.ty "str")) tNil))))) (tNot (tTest (tChain (rI0 fun i j => V.bl (decide (i ≤ j))) (rI0 fun i j => V.bl (decide (i ≤ j))) (tC (.int 1)) (tCB (rLenA K) (tCons (tVar 0) tNil)) (tC (.int 8)))))) (tRet (tC (.bl false))) tNext) (tRet (tCB (rAll K) (tCons (tLc (iStr (tVar 0)) (gName 1) tYes (tOp rInSg (tVar 1) (tC (.str "abcdefghijklmnopqrstuvwxyz"))) [1]) tNil))))
theorem go_is_name (ss : List SV) (g : List Cell) (post : D → List Cell → Prop) (h : Ris_name ss g post) : GoS K g.length (tis_name K wd) (ss ++ List.replicate (2 - ss.length) .no) g (KF g.length post) := by
  obtain ⟨d, rfl, rfl, hx, p⟩ := h
  unfold tis_name
  have no : nameB d = false → post (.bool false) [] := fun e => by rw [e] at p; exact p
  refine gs_seq (gs_if (gt_or (gt_not (gt_B (gd_isi (by simp) (gd_var rfl ⟨_, rfl, fun hb => ?_, fun hb => ⟨fun _ => gs_ret (gd_bl ⟨_, rfl, no ?_⟩), fun z => nomatch z⟩⟩))))))
  rotate_left
  · cases d with
    | str xs => exact absurd hb (by simp [isaD, isaN, tyN])
    | _ => rfl
  obtain ⟨x, rfl⟩ := isa_str (d := d) (by simpa using hb)
  have hl := hx x rfl
  have bad : (decide ((1 : Int) ≤ (x.length : Int)) && decide ((x.length : Int) ≤ 8)) = false → nameB (.str x) = false := fun e => by
    show ((decide (1 ≤ x.length) && decide (x.length ≤ 8)) && _) = false
    rw [← (dec_len x).1, ← (dec_len x).2, e, Bool.false_and]
  refine gt_not (gt_test (gd_chain (gd_int (gd_cb (r := rLenA K) (gs_cons (gd_var rfl (gs_nil (opd_lenS2 hl (opd_le ⟨_, rfl, fun h1 => gd_int (opd_le ⟨_, rfl, fun h2 => gs_ret (gd_bl ⟨_, rfl, no (bad ?_)⟩), fun h2 => gs_next ?_⟩), fun h1 => ⟨_, rfl, fun _ => gs_ret (gd_bl ⟨_, rfl, no (bad ?_)⟩), fun z => absurd z (by decide)⟩⟩)))))))))
  · rw [not_tt h2, Bool.and_false]
  · have h2 := not_ff h2
    have e : nameB (.str x) = x.cps.toList.all smB := by
      show ((decide (1 ≤ x.length) && decide (x.length ≤ 8)) && _) = _
      rw [← (dec_len x).1, ← (dec_len x).2, h1, h2, Bool.true_and, Bool.true_and]
    rw [e] at p
    refine gs_ret (gd_cb (r := rAll K) (gs_cons (gd_mapT sgn encSm mg_name (ij_name (by simp)) (gi_str (gd_var rfl ⟨x, rfl, x.cps.toList, rfl, len_name h2, fun i c hc => gg_name (gd_op (gd_var rfl (gd_str (opd_inSg ⟨rfl, rfl⟩)))), ?_⟩)))))
    have e1 : x.cps.toList.map encSm = (x.cps.toList.map smB).map PyData.bool := by rw [List.map_map]; rfl
    rw [e1]
    refine gs_nil (opd_all ⟨_, rfl, ?_⟩)
    rw [List.all_map]
    exact p
  · rw [h1, Bool.false_and]
def t_law_is_name (K : PySem.W.Frag) (wd : PySem.World) : TS := (tSeq (tIfS (tOr (tNot (tB (tCB (rIsi K) (tCons (tVar 0) (tCons (tC (.ty "str")) tNil))))) (tNot (tTest (tChain (rI0 fun i j => V.bl (decide (i ≤ j))) (rI0 fun i j => V.bl (decide (i ≤ j))) (tC (.int 1)) (tCB (rLenA K) (tCons (tVar 0) tNil)) (tC (.int 8)))))) (tRet (tC (.bl false))) tNext) (tRet (tOp (rEqN K) (tLc (iStr (tVar 0)) (gName 1) (tTest (tOp rNotInSg (tVar 1) (tC (.str "abcdefghijklmnopqrstuvwxyz")))) (tVar 1) [1]) (tLst tNil))))
theorem go_law_is_name (ss : List SV) (g : List Cell) (post : D → List Cell → Prop) (h : R_law_is_name ss g post) : GoS K g.length (t_law_is_name K wd) (ss ++ List.replicate (2 - ss.length) .no) g (KF g.length post) := by
  obtain ⟨d, rfl, rfl, hx, p⟩ := h
  unfold t_law_is_name
  have no : nameB d = false → post (.bool false) [] := fun e => by rw [e] at p; exact p
  refine gs_seq (gs_if (gt_or (gt_not (gt_B (gd_isi (by simp) (gd_var rfl ⟨_, rfl, fun hb => ?_, fun hb => ⟨fun _ => gs_ret (gd_bl ⟨_, rfl, no ?_⟩), fun z => nomatch z⟩⟩))))))
  rotate_left
  · cases d with
    | str xs => exact absurd hb (by simp [isaD, isaN, tyN])
    | _ => rfl
  obtain ⟨x, rfl⟩ := isa_str (d := d) (by simpa using hb)
  have hl := hx x rfl
  have bad : (decide ((1 : Int) ≤ (x.length : Int)) && decide ((x.length : Int) ≤ 8)) = false → nameB (.str x) = false := fun e => by
    show ((decide (1 ≤ x.length) && decide (x.length ≤ 8)) && _) = false
    rw [← (dec_len x).1, ← (dec_len x).2, e, Bool.false_and]
  refine gt_not (gt_test (gd_chain (gd_int (gd_cb (r := rLenA K) (gs_cons (gd_var rfl (gs_nil (opd_lenS2 hl (opd_le ⟨_, rfl, fun h1 => gd_int (opd_le ⟨_, rfl, fun h2 => gs_ret (gd_bl ⟨_, rfl, no (bad ?_)⟩), fun h2 => gs_next ?_⟩), fun h1 => ⟨_, rfl, fun _ => gs_ret (gd_bl ⟨_, rfl, no (bad ?_)⟩), fun z => absurd z (by decide)⟩⟩)))))))))
  · rw [not_tt h2, Bool.and_false]
  · have h2 := not_ff h2
    have e : nameB (.str x) = x.cps.toList.all smB := by
      show ((decide (1 ≤ x.length) && decide (x.length ≤ 8)) && _) = _
      rw [← (dec_len x).1, ← (dec_len x).2, h1, h2, Bool.true_and, Bool.true_and]
    rw [e] at p
    refine gs_ret (gd_op (gd_filT sgn sgn (fun c => !smB c) mg_name (ij_name (by simp)) (gi_str (gd_var rfl ⟨x, rfl, x.cps.toList, rfl, len_name h2, fun i c hc => gg_name (gt_test (gd_op (gd_var rfl (gd_str (opd_ninSg ⟨_, rfl, rfl, rfl, gd_var rfl ⟨rfl, rfl⟩⟩))))), gd_lst (gs_nil ⟨by decide, opd_eqN ⟨_, rfl, ?_⟩⟩)⟩))))
    have e2 : ((x.cps.toList.filter fun c => !smB c).map sgn).isEmpty = x.cps.toList.all smB := by
      rw [List.isEmpty_map, Bool.eq_iff_iff, List.isEmpty_iff, List.filter_eq_nil_iff, List.all_eq_true]
      exact ⟨fun h c hc => by simpa using h c hc, fun h c hc => by rw [h c hc]; decide⟩
    rw [e2]
    exact p
  · rw [h1, Bool.false_and]
end
end Go
namespace Go
open PySem PySem.Spec PyProof.Rows L2 SetMix ZipE
open Evl (Ex)
local macro_rules | `(tactic| walk_at "g") => `(tactic| first
  | ((with_reducible refine gd_var (d := ?dd) ?hv ?_); (case hv => exact rfl))
  | ((with_reducible refine gd_ixScr (ns := ?ns) ?hv ?_); (case hv => exact rfl))
  | ((with_reducible refine gd_ixCel (j := ?jj) ?hv ?_); (case hv => exact rfl))
  | ((with_reducible refine gd_lenScr (ns := ?ns) ?hv ?_); (case hv => exact rfl))
  | with_reducible first
    | refine gs_seq ?_ | refine gs_next ?_ | refine gs_ret ?_ | refine gs_asgD ?_ | refine gs_if ?_
    | refine gt_test ?_ | refine gt_B ?_ | refine gt_and ?_ | refine gt_or ?_ | refine gt_not ?_ | refine gt_yes ?_
    | refine gd_int ?_ | refine gd_str ?_ | refine gd_bl ?_ | refine gd_non ?_
    | refine gd_op ?_ | refine gd_tup ?_ | refine gd_lst ?_
    | refine gd_cb (r := rLenA _) ?_ | refine gd_cb (r := rTupleA _) ?_ | refine gd_cb (r := rAbsA) ?_ | refine gd_cb (r := rMax2A) ?_ | refine gd_cb (r := rMin2A) ?_ | refine gd_cb (r := rIntA) ?_ | refine gd_cb (r := rAny _) ?_ | refine gd_cb (r := rAll _) ?_ | refine gd_cb (r := rDictP _) ?_ | refine gd_cb (r := rMax _) ?_ | refine gd_cb (r := rMin _) ?_
    | refine gs_cons ?_ | refine gs_nil ?_ | refine gd_dget ?_
    | refine gd_and ?_ | refine gd_or ?_ | refine gd_not ?_
    | refine opd_addI ?_ | refine opd_sub ?_ | refine opd_lt ?_ | refine opd_le ?_ | refine opd_gt ?_ | refine opd_ge ?_
    | refine opd_lenL ?_ | refine opd_lenT ?_ | refine opd_tupleL ?_ | refine opd_tupleT ?_ | refine opd_max2 ?_ | refine opd_min2 ?_ | refine opd_abs ?_ | refine opd_intB ?_
    | refine Exists.intro _ (And.intro rfl ?_))
/-! ### names, houses, times: of anything that has not too much in it -/
def SBx (d : D) : Prop := ∃ n q, n ≤ 5 ∧ SB n q d
theorem sbx_tup {xs : List D} (h : SBx (.tuple xs)) : ∀ x ∈ xs, SBx x := by
  obtain ⟨n, q, hn, h⟩ := h
  cases h with
  | tup _ b => exact fun x hx => ⟨n, _, hn, b x hx⟩
theorem sbx_str {d : D} (h : SBx d) : ∀ x : Str, d = .str x → x.length ≤ 1000000 := fun x e => by
  subst e
  obtain ⟨n, q, hn, h⟩ := h
  cases h with
  | str a =>
    have h3 : 3 ^ n ≤ 243 := Nat.le_trans (Nat.pow_le_pow_right (by decide) hn) (by decide)
    omega
def namesB (d : D) (k : Int) : Bool := match d with
  | .tuple xs => decide ((xs.length : Int) ≤ k) && (xs.all nameB && risB xs)
  | _ => false
def houseB (d : D) : Bool := match d with
  | .tuple [r, p] => numB r 1 4 && namesB p 8
  | _ => false
def Rare_names : RSpec := fun ss g post => ∃ d k, ss = [.d d, .d (.int k)] ∧ g = [] ∧ k ≤ 100 ∧ SBx d ∧ post (.bool (namesB d k)) []
def Ris_house : RSpec := fun ss g post => ∃ d, ss = [.d d] ∧ g = [] ∧ SBx d ∧ post (.bool (houseB d)) []
theorem small_abc : ∀ c ∈ abc.cps.toList, c < 1114112 := by unfold abc; decide +kernel
theorem name_str {d : D} (h : nameB d = true) : ∃ x : Str, d = .str x ∧ okS x := by
  cases d with
  | str x =>
    refine ⟨x, rfl, ?_⟩
    have h : ((decide (1 ≤ x.length) && decide (x.length ≤ 8)) && x.cps.toList.all smB) = true := h
    rw [Bool.and_eq_true] at h
    show PyData.canLay0 (.str x) = true
    unfold PyData.canLay0 PyData.strOk
    rw [← Array.all_toList, List.all_eq_true]
    intro c hc
    exact decide_eq_true (small_abc c (of_decide_eq_true (List.all_eq_true.mp h.2 c hc)))
  | _ => cases h
theorem names_strs : ∀ {xs : List D}, xs.all nameB = true → ∃ ns : List Str, xs = ns.map PyData.str ∧ ∀ x ∈ ns, okS x
  | [], _ => ⟨[], rfl, fun _ z => nomatch z⟩
  | x :: xs, h => by
    rw [List.all_cons, Bool.and_eq_true] at h
    obtain ⟨y, rfl, hy⟩ := name_str h.1
    obtain ⟨ns, rfl, hn⟩ := names_strs h.2
    refine ⟨y :: ns, rfl, fun z hz => ?_⟩
    rcases List.mem_cons.mp hz with e | e
    · rw [e]; exact hy
    · exact hn z e
theorem okR_strs {ns : List Str} (hl : ns.length ≤ 1000) (h : ∀ x ∈ ns, okS x) : OkR (ns.map PyData.str) where
  ln := by rw [List.length_map]; exact hl
  nn := fun a ha => by obtain ⟨r, _, rfl⟩ := List.mem_map.mp ha; exact fun z => nomatch z
  dp := fun a ha => by obtain ⟨r, _, rfl⟩ := List.mem_map.mp ha; simp [PyData.depth]
  cl := fun a ha => by obtain ⟨r, hr, rfl⟩ := List.mem_map.mp ha; exact h r hr
  al := fun a ha b hb => by
    obtain ⟨r, _, rfl⟩ := List.mem_map.mp ha
    obtain ⟨q, _, rfl⟩ := List.mem_map.mp hb
    simp [PySem.W.alike]
theorem tup0 {d : D} {k : Int} : tupB d 0 k = (match d with | .tuple xs => decide ((xs.length : Int) ≤ k) | _ => false) := by
  cases d with
  | tuple xs =>
    show (decide ((0 : Int) ≤ (xs.length : Int)) && _) = decide ((xs.length : Int) ≤ k)
    rw [show decide ((0 : Int) ≤ (xs.length : Int)) = true from decide_eq_true (by omega)]
    rfl
  | _ => rfl
theorem tup2 {d : D} (h : tupB d 2 2 = true) : ∃ a b, d = .tuple [a, b] := by
  cases d with
  | tuple xs =>
    have h2 : (decide ((2 : Int) ≤ (xs.length : Int)) && decide ((xs.length : Int) ≤ 2)) = true := h
    rw [Bool.and_eq_true] at h2
    have h3 := of_decide_eq_true h2.1
    have h4 := of_decide_eq_true h2.2
    match xs, h3, h4 with
    | [a, b], _, _ => exact ⟨a, b, rfl⟩
    | [], h, _ => simp at h
    | [_], h, _ => simp at h
    | _ :: _ :: _ :: _, _, h => simp at h; omega
  | _ => cases h
section
variable {K : PySem.W.Frag} {wd : PySem.World}
def encNmB (d : D) : D := .bool (nameB d)
def tare_names (K : PySem.W.Frag) (wd : PySem.World) : TS := (tSeq (tIfS (tNot (tB (tCall (spOf K Ris_tuple) [] E0 (tCons (tVar 0) (tCons (tC (.int 0)) (tCons (tVar 1) tNil)))))) (tRet (tC (.bl false))) tNext) (tRet (tAndV (tCB (rAll K) (tCons (tLc (iTup K (tVar 0)) (gName 2) tYes (tCall (spOf K Ris_name) [] E0 (tCons (tVar 2) tNil)) [2]) tNil)) (tCall (spOf K Ris_rising) [] E0 (tCons (tVar 0) tNil)))))
theorem go_are_names (ss : List SV) (g : List Cell) (post : D → List Cell → Prop) (h : Rare_names ss g post) : GoS K g.length (tare_names K wd) (ss ++ List.replicate (3 - ss.length) .no) g (KF g.length post) := by
  obtain ⟨d, k, rfl, rfl, hk, sb, p⟩ := h
  unfold tare_names
  refine gs_seq (gs_if (gt_not (gt_B (gd_call (gs_cons (gd_var rfl (gs_cons (gd_int (gs_cons (gd_var rfl (gs_nil ⟨d, 0, k, rfl, rfl, _, rfl, fun hb => gs_ret (gd_bl ⟨_, rfl, ?_⟩), fun hb => gs_next ?_⟩)))))))))))
  · have hb := not_tt hb
    rw [tup0] at hb
    have e : namesB d k = false := by
      cases d with
      | tuple xs =>
        show (decide ((xs.length : Int) ≤ k) && _) = false
        have hb2 : decide ((xs.length : Int) ≤ k) = false := hb
        rw [hb2, Bool.false_and]
      | _ => rfl
    rw [e] at p
    exact p
  have hb := not_ff hb
  rw [tup0] at hb
  cases d with
  | tuple xs =>
    have hl := of_decide_eq_true (show decide ((xs.length : Int) ≤ k) = true from hb)
    have e : namesB (.tuple xs) k = (xs.all nameB && risB xs) := by
      show (decide ((xs.length : Int) ≤ k) && _) = _
      rw [decide_eq_true hl, Bool.true_and]
    rw [e] at p
    refine gs_ret (gd_and (gd_cb (r := rAll K) (gs_cons (gd_mapT id encNmB mg_name (ij_name (by simp)) (gi_tup (gd_var rfl ⟨_, rfl, xs, (List.map_id xs).symm, by omega, fun i x hx => gg_name (gd_call (gs_cons (gd_var rfl (gs_nil ⟨x, rfl, rfl, sbx_str (sbx_tup sb x (List.mem_of_getElem? hx)), rfl, rfl⟩)))), ?_⟩))))))
    have e1 : xs.map encNmB = (xs.map nameB).map PyData.bool := by rw [List.map_map]; rfl
    rw [e1]
    refine gs_nil (opd_all ?_)
    rw [List.all_map]
    refine ⟨_, rfl, fun ha => ?_, fun ha => ?_⟩
    · have ha : xs.all nameB = true := ha
      rw [ha, Bool.true_and] at p
      obtain ⟨ns, rfl, hn⟩ := names_strs ha
      rw [List.length_map] at hl
      exact gd_call (gs_cons (gd_var rfl (gs_nil ⟨_, ns.map PyData.str, rfl, rfl, .inr rfl, okR_strs (by omega) hn, _, rfl, p⟩)))
    · have ha : xs.all nameB = false := ha
      rw [ha, Bool.false_and] at p
      exact ⟨_, rfl, p⟩
  | _ => cases hb
def tis_house (K : PySem.W.Frag) (wd : PySem.World) : TS := (tSeq (tIfS (tNot (tB (tCall (spOf K Ris_tuple) [] E0 (tCons (tVar 0) (tCons (tC (.int 2)) (tCons (tC (.int 2)) tNil)))))) (tRet (tC (.bl false))) tNext) (tSeq (tAsg (tVar 0) (gTup K 2 (gCons (gName 1) (gCons (gName 2) gNil)))) (tRet (tAndV (tCall (spOf K Ris_number) [] E0 (tCons (tVar 1) (tCons (tC (.int 1)) (tCons (tC (.int 4)) tNil)))) (tCall (spOf K Rare_names) [] E0 (tCons (tVar 2) (tCons (tC (.int 8)) tNil)))))))
theorem go_is_house (ss : List SV) (g : List Cell) (post : D → List Cell → Prop) (h : Ris_house ss g post) : GoS K g.length (tis_house K wd) (ss ++ List.replicate (3 - ss.length) .no) g (KF g.length post) := by
  obtain ⟨d, rfl, rfl, sb, p⟩ := h
  unfold tis_house
  refine gs_seq (gs_if (gt_not (gt_B (gd_call (gs_cons (gd_var rfl (gs_cons (gd_int (gs_cons (gd_int (gs_nil ⟨d, 2, 2, rfl, rfl, _, rfl, fun hb => gs_ret (gd_bl ⟨_, rfl, ?_⟩), fun hb => gs_next ?_⟩)))))))))))
  · have hb := not_tt hb
    have e : houseB d = false := by
      unfold houseB
      split
      · cases hb
      · rfl
    rw [e] at p
    exact p
  obtain ⟨a, b, rfl⟩ := tup2 (not_ff hb)
  have p : post (.bool (numB a 1 4 && namesB b 8)) [] := p
  refine gs_seq (gs_asgG (gd_var rfl (gg2 ?_)))
  refine gs_ret (gd_and (gd_call (gs_cons (gd_var rfl (gs_cons (gd_int (gs_cons (gd_int (gs_nil ⟨a, 1, 4, rfl, rfl, _, rfl, fun h1 => ?_, fun h1 => ?_⟩)))))))))
  · rw [h1, Bool.true_and] at p
    exact gd_call (gs_cons (gd_var rfl (gs_cons (gd_int (gs_nil ⟨b, 8, rfl, rfl, by decide, sbx_tup sb b (by simp), _, rfl, p⟩)))))
  · rw [h1, Bool.false_and] at p
    exact ⟨_, rfl, p⟩
end
end Go
namespace Go
open PySem PySem.Spec PyProof.Rows L2 SetMix ZipE
open Evl (Ex)
local macro_rules | `(tactic| walk_at "g") => `(tactic| first
  | ((with_reducible refine gd_var (d := ?dd) ?hv ?_); (case hv => exact rfl))
  | ((with_reducible refine gd_ixScr (ns := ?ns) ?hv ?_); (case hv => exact rfl))
  | ((with_reducible refine gd_ixCel (j := ?jj) ?hv ?_); (case hv => exact rfl))
  | ((with_reducible refine gd_lenScr (ns := ?ns) ?hv ?_); (case hv => exact rfl))
  | with_reducible first
    | refine gs_seq ?_ | refine gs_next ?_ | refine gs_ret ?_ | refine gs_asgD ?_ | refine gs_if ?_
    | refine gt_test ?_ | refine gt_B ?_ | refine gt_and ?_ | refine gt_or ?_ | refine gt_not ?_ | refine gt_yes ?_
    | refine gd_int ?_ | refine gd_str ?_ | refine gd_bl ?_ | refine gd_non ?_
    | refine gd_op ?_ | refine gd_tup ?_ | refine gd_lst ?_
    | refine gd_cb (r := rLenA _) ?_ | refine gd_cb (r := rTupleA _) ?_ | refine gd_cb (r := rAbsA) ?_ | refine gd_cb (r := rMax2A) ?_ | refine gd_cb (r := rMin2A) ?_ | refine gd_cb (r := rIntA) ?_ | refine gd_cb (r := rAny _) ?_ | refine gd_cb (r := rAll _) ?_ | refine gd_cb (r := rDictP _) ?_ | refine gd_cb (r := rMax _) ?_ | refine gd_cb (r := rMin _) ?_
    | refine gs_cons ?_ | refine gs_nil ?_ | refine gd_dget ?_
    | refine gd_and ?_ | refine gd_or ?_ | refine gd_not ?_
    | refine opd_addI ?_ | refine opd_sub ?_ | refine opd_lt ?_ | refine opd_le ?_ | refine opd_gt ?_ | refine opd_ge ?_
    | refine opd_lenL ?_ | refine opd_lenT ?_ | refine opd_tupleL ?_ | refine opd_tupleT ?_ | refine opd_max2 ?_ | refine opd_min2 ?_ | refine opd_abs ?_ | refine opd_intB ?_
    | refine Exists.intro _ (And.intro rfl ?_))
def timesB (u l : D) : Bool := numB u 1 200 && numB l (unI u) 400
def teamB (pp : List Str) (d : D) : Bool := namesB d 3 && (match d with
  | .tuple xs => xs.all fun x => (pp.map PyData.str).any fun y => PyData.eqv y x
  | _ => false)
def placesB (r : Int) (d : D) : Bool := match d with
  | .tuple xs => !decide (xs.length = 0) && ((xs.all fun x => numB x 0 (r - 1)) && risB xs)
  | _ => false
def Rare_times : RSpec := fun ss g post => ∃ u l, ss = [.d u, .d l] ∧ g = [] ∧ post (.bool (timesB u l)) []
def Ris_team : RSpec := fun ss g post => ∃ (pp : List Str) (d : D), ss = [.d (.tuple (pp.map PyData.str)), .d d] ∧ g = [] ∧ SBx d ∧ post (.bool (teamB pp d)) []
def Rare_places : RSpec := fun ss g post => ∃ (r : Int) (d : D), ss = [.d (.int r), .d d] ∧ g = [] ∧ SBx d ∧ post (.bool (placesB r d)) []
theorem num_int {d : D} {lo hi : Int} (h : numB d lo hi = true) : ∃ i, d = .int i ∧ lo ≤ i ∧ i ≤ hi := by
  cases d with
  | int i =>
    have h : (decide (lo ≤ i) && decide (i ≤ hi)) = true := h
    rw [Bool.and_eq_true] at h
    exact ⟨i, rfl, of_decide_eq_true h.1, of_decide_eq_true h.2⟩
  | _ => cases h
theorem nums_ints {lo hi : Int} : ∀ {xs : List D}, (xs.all fun x => numB x lo hi) = true → ∃ ns : List Int, xs = ns.map PyData.int
  | [], _ => ⟨[], rfl⟩
  | x :: xs, h => by
    rw [List.all_cons, Bool.and_eq_true] at h
    obtain ⟨i, rfl, _⟩ := num_int h.1
    obtain ⟨ns, rfl⟩ := nums_ints h.2
    exact ⟨i :: ns, rfl⟩
theorem okR_ints {ns : List Int} (hl : ns.length ≤ 1000) : OkR (ns.map PyData.int) where
  ln := by rw [List.length_map]; exact hl
  nn := fun a ha => by obtain ⟨r, _, rfl⟩ := List.mem_map.mp ha; exact fun z => nomatch z
  dp := fun a ha => by obtain ⟨r, _, rfl⟩ := List.mem_map.mp ha; simp [PyData.depth]
  cl := fun a ha => by obtain ⟨r, hr, rfl⟩ := List.mem_map.mp ha; simp [PyData.canLay0]
  al := fun a ha b hb => by
    obtain ⟨r, _, rfl⟩ := List.mem_map.mp ha
    obtain ⟨q, _, rfl⟩ := List.mem_map.mp hb
    simp [PySem.W.alike]
theorem sbx_len {xs : List D} (h : SBx (.tuple xs)) : xs.length ≤ 200 := by
  obtain ⟨n, q, hn, h⟩ := h
  cases h with
  | tup a _ => omega
section
variable {K : PySem.W.Frag} {wd : PySem.World}
def tare_times (K : PySem.W.Frag) (wd : PySem.World) : TS := (tRet (tAndV (tCall (spOf K Ris_number) [] E0 (tCons (tVar 0) (tCons (tC (.int 1)) (tCons (tC (.int 200)) tNil)))) (tCall (spOf K Ris_number) [] E0 (tCons (tVar 1) (tCons (tVar 0) (tCons (tC (.int 400)) tNil))))))
theorem go_are_times (ss : List SV) (g : List Cell) (post : D → List Cell → Prop) (h : Rare_times ss g post) : GoS K g.length (tare_times K wd) (ss ++ List.replicate (2 - ss.length) .no) g (KF g.length post) := by
  obtain ⟨u, l, rfl, rfl, p⟩ := h
  unfold tare_times
  unfold timesB at p
  refine gs_ret (gd_and (gd_call (gs_cons (gd_var rfl (gs_cons (gd_int (gs_cons (gd_int (gs_nil ⟨u, 1, 200, rfl, rfl, _, rfl, fun h1 => ?_, fun h1 => ⟨_, rfl, ?_⟩⟩)))))))))
  · rw [h1, Bool.true_and] at p
    obtain ⟨i, rfl, _⟩ := num_int h1
    exact gd_call (gs_cons (gd_var rfl (gs_cons (gd_var rfl (gs_cons (gd_int (gs_nil ⟨l, i, 400, rfl, rfl, _, rfl, p⟩)))))))
  · rw [h1, Bool.false_and] at p
    exact p
def encTm (pp : List Str) (x : D) : D := .bool ((pp.map PyData.str).any fun y => PyData.eqv y x)
def tis_team (K : PySem.W.Frag) (wd : PySem.World) : TS := (tRet (tAndV (tCall (spOf K Rare_names) [] E0 (tCons (tVar 1) (tCons (tC (.int 3)) tNil))) (tCB (rAll K) (tCons (tLc (iTup K (tVar 1)) (gName 2) tYes (tOp (rIn K false) (tVar 2) (tVar 0)) [2]) tNil))))
theorem go_is_team (ss : List SV) (g : List Cell) (post : D → List Cell → Prop) (h : Ris_team ss g post) : GoS K g.length (tis_team K wd) (ss ++ List.replicate (3 - ss.length) .no) g (KF g.length post) := by
  obtain ⟨pp, d, rfl, rfl, sb, p⟩ := h
  unfold tis_team
  unfold teamB at p
  refine gs_ret (gd_and (gd_call (gs_cons (gd_var rfl (gs_cons (gd_int (gs_nil ⟨d, 3, rfl, rfl, by decide, sb, _, rfl, fun h1 => ?_, fun h1 => ⟨_, rfl, ?_⟩⟩)))))))
  · rw [h1, Bool.true_and] at p
    cases d with
    | tuple xs =>
      have h1 : (decide ((xs.length : Int) ≤ 3) && (xs.all nameB && risB xs)) = true := h1
      rw [Bool.and_eq_true, Bool.and_eq_true] at h1
      have hl := sbx_len sb
      have fl : ∀ x ∈ xs, flatD x = true := fun x hx => by
        obtain ⟨y, rfl, _⟩ := name_str (List.all_eq_true.mp h1.2.1 x hx)
        rfl
      refine gd_cb (r := rAll K) (gs_cons (gd_mapT id (encTm pp) mg_name (ij_name (by simp)) (gi_tup (gd_var rfl ⟨_, rfl, xs, (List.map_id xs).symm, by omega, fun i x hx => gg_name (gd_op (gd_var rfl (gd_var rfl (opd_inT (fl x (List.mem_of_getElem? hx)) (by rw [List.all_map]; exact List.all_eq_true.mpr fun _ _ => rfl) ⟨rfl, rfl⟩)))), ?_⟩))))
      have e1 : xs.map (encTm pp) = (xs.map fun x => (pp.map PyData.str).any fun y => PyData.eqv y x).map PyData.bool := by rw [List.map_map]; rfl
      rw [e1]
      refine gs_nil (opd_all ⟨_, rfl, ?_⟩)
      rw [List.all_map]
      exact p
    | _ => cases h1
  · rw [h1, Bool.false_and] at p
    exact p
def encPl (r : Int) (x : D) : D := .bool (numB x 0 (r - 1))
def tare_places (K : PySem.W.Frag) (wd : PySem.World) : TS := (tSeq (tIfS (tOr (tNot (tB (tCB (rIsi K) (tCons (tVar 1) (tCons (tC (.ty "tuple")) tNil))))) (tTest (tOp (rEqD K) (tCB (rLenA K) (tCons (tVar 1) tNil)) (tC (.int 0))))) (tRet (tC (.bl false))) tNext) (tSeq (tIfS (tNot (tB (tCB (rAll K) (tCons (tLc (iTup K (tVar 1)) (gName 2) tYes (tCall (spOf K Ris_number) [] E0 (tCons (tVar 2) (tCons (tC (.int 0)) (tCons (tOp (rI0 fun i j => V.int (i - j)) (tVar 0) (tC (.int 1))) tNil)))) [2]) tNil)))) (tRet (tC (.bl false))) tNext) (tRet (tCall (spOf K Ris_rising) [] E0 (tCons (tVar 1) tNil)))))
theorem go_are_places (ss : List SV) (g : List Cell) (post : D → List Cell → Prop) (h : Rare_places ss g post) : GoS K g.length (tare_places K wd) (ss ++ List.replicate (3 - ss.length) .no) g (KF g.length post) := by
  obtain ⟨r, d, rfl, rfl, sb, p⟩ := h
  unfold tare_places
  have no : placesB r d = false → post (.bool false) [] := fun e => by rw [e] at p; exact p
  refine gs_seq (gs_if (gt_or (gt_not (gt_B (gd_isi (by simp) (gd_var rfl ⟨_, rfl, fun hb => ?_, fun hb => ⟨fun _ => gs_ret (gd_bl ⟨_, rfl, no ?_⟩), fun z => nomatch z⟩⟩))))))
  rotate_left
  · cases d with
    | tuple xs => exact absurd hb (by simp [isaD, isaN, tyN])
    | _ => rfl
  obtain ⟨xs, rfl⟩ := isa_tuple (d := d) (by simpa using hb)
  have hl := sbx_len sb
  refine gt_test (gd_op (gd_cb (r := rLenA K) (gs_cons (gd_var rfl (gs_nil (opd_lenT (gd_int (opd_eq rfl rfl ⟨_, rfl, fun h0 => gs_ret (gd_bl ⟨_, rfl, no ?_⟩), fun h0 => gs_next ?_⟩))))))))
  · rw [eqvI] at h0
    have h0 := of_decide_eq_true h0
    show (!decide (xs.length = 0) && _) = false
    rw [decide_eq_true (by omega)]
    rfl
  rw [eqvI] at h0
  have h0 := of_decide_eq_false h0
  have e : placesB r (.tuple xs) = ((xs.all fun x => numB x 0 (r - 1)) && risB xs) := by
    show (!decide (xs.length = 0) && _) = _
    rw [decide_eq_false (by omega)]
    rfl
  rw [e] at p
  refine gs_seq (gs_if (gt_not (gt_B (gd_cb (r := rAll K) (gs_cons (gd_mapT id (encPl r) mg_name (ij_name (by simp)) (gi_tup (gd_var rfl ⟨_, rfl, xs, (List.map_id xs).symm, by omega, fun i x hx => gg_name (gd_call (gs_cons (gd_var rfl (gs_cons (gd_int (gs_cons (gd_op (gd_var rfl (gd_int (opd_sub (gs_nil ⟨x, 0, r - 1, rfl, rfl, rfl, rfl⟩))))))))))), ?_⟩))))))))
  have e1 : xs.map (encPl r) = (xs.map fun x => numB x 0 (r - 1)).map PyData.bool := by rw [List.map_map]; rfl
  rw [e1]
  refine gs_nil (opd_all ?_)
  rw [List.all_map]
  refine ⟨_, rfl, fun ha => gs_ret (gd_bl ⟨_, rfl, ?_⟩), fun ha => gs_next ?_⟩
  · have ha : (xs.all fun x => numB x 0 (r - 1)) = false := not_tt ha
    rw [ha, Bool.false_and] at p
    exact p
  · have ha : (xs.all fun x => numB x 0 (r - 1)) = true := not_ff ha
    rw [ha, Bool.true_and] at p
    obtain ⟨ns, rfl⟩ := nums_ints ha
    rw [List.length_map] at hl
    exact gs_ret (gd_call (gs_cons (gd_var rfl (gs_nil ⟨_, ns.map PyData.int, rfl, rfl, .inr rfl, okR_ints (by omega), _, rfl, p⟩))))
end
end Go
namespace Go
open PySem PySem.Spec PyProof.Rows L2 SetMix ZipE
open Evl (Ex)
local macro_rules | `(tactic| walk_at "g") => `(tactic| first
  | ((with_reducible refine gd_var (d := ?dd) ?hv ?_); (case hv => exact rfl))
  | ((with_reducible refine gd_ixScr (ns := ?ns) ?hv ?_); (case hv => exact rfl))
  | ((with_reducible refine gd_ixCel (j := ?jj) ?hv ?_); (case hv => exact rfl))
  | ((with_reducible refine gd_lenScr (ns := ?ns) ?hv ?_); (case hv => exact rfl))
  | with_reducible first
    | refine gs_seq ?_ | refine gs_next ?_ | refine gs_ret ?_ | refine gs_asgD ?_ | refine gs_if ?_
    | refine gt_test ?_ | refine gt_B ?_ | refine gt_and ?_ | refine gt_or ?_ | refine gt_not ?_ | refine gt_yes ?_
    | refine gd_int ?_ | refine gd_str ?_ | refine gd_bl ?_ | refine gd_non ?_
    | refine gd_op ?_ | refine gd_tup ?_ | refine gd_lst ?_
    | refine gd_cb (r := rLenA _) ?_ | refine gd_cb (r := rTupleA _) ?_ | refine gd_cb (r := rAbsA) ?_ | refine gd_cb (r := rMax2A) ?_ | refine gd_cb (r := rMin2A) ?_ | refine gd_cb (r := rIntA) ?_ | refine gd_cb (r := rAny _) ?_ | refine gd_cb (r := rAll _) ?_ | refine gd_cb (r := rDictP _) ?_ | refine gd_cb (r := rMax _) ?_ | refine gd_cb (r := rMin _) ?_
    | refine gs_cons ?_ | refine gs_nil ?_ | refine gd_dget ?_
    | refine gd_and ?_ | refine gd_or ?_ | refine gd_not ?_
    | refine opd_addI ?_ | refine opd_sub ?_ | refine opd_lt ?_ | refine opd_le ?_ | refine opd_gt ?_ | refine opd_ge ?_
    | refine opd_lenL ?_ | refine opd_lenT ?_ | refine opd_tupleL ?_ | refine opd_tupleT ?_ | refine opd_max2 ?_ | refine opd_min2 ?_ | refine opd_abs ?_ | refine opd_intB ?_
    | refine Exists.intro _ (And.intro rfl ?_))
def caseB (h : Hs) (d : D) : Bool := match d with
  | .tuple [nm, us, lo, tm, pl, fi] => (nameB nm && numB fi 0 600) && (timesB us lo && (teamB h.ppl tm && placesB h.rooms pl))
  | _ => false
def fstD (d : D) : D := match d with
  | .tuple (x :: _) => x
  | _ => .none
def casesB (h : Hs) (d : D) : Bool := match d with
  | .tuple xs => decide ((xs.length : Int) ≤ 8) && (xs.all (caseB h) && risB (xs.map fstD))
  | _ => false
def Ris_case : RSpec := fun ss g post => ∃ (h : Hs) (d : D), ss = [.d (encH h), .d d] ∧ g = [] ∧ SBx d ∧ post (.bool (caseB h d)) []
def Rare_cases : RSpec := fun ss g post => ∃ (h : Hs) (d : D), ss = [.d (encH h), .d d] ∧ g = [] ∧ SBx d ∧ post (.bool (casesB h d)) []
theorem tup6 {d : D} (h : tupB d 6 6 = true) : ∃ a b c e f k, d = .tuple [a, b, c, e, f, k] := by
  cases d with
  | tuple xs =>
    have h2 : (decide ((6 : Int) ≤ (xs.length : Int)) && decide ((xs.length : Int) ≤ 6)) = true := h
    rw [Bool.and_eq_true] at h2
    have h3 := of_decide_eq_true h2.1
    have h4 := of_decide_eq_true h2.2
    have hl : xs.length = 6 := by omega
    match xs, hl with
    | [a, b, c, e, f, k], _ => exact ⟨a, b, c, e, f, k, rfl⟩
  | _ => cases h
theorem case_of {h : Hs} {d : D} (hc : caseB h d = true) : ∃ x : Str, fstD d = .str x ∧ okS x ∧ ∃ xs, d = .tuple (.str x :: xs) := by
  unfold caseB at hc
  split at hc
  · rw [Bool.and_eq_true, Bool.and_eq_true] at hc
    obtain ⟨x, rfl, hx⟩ := name_str hc.1.1
    exact ⟨x, rfl, hx, _, rfl⟩
  · cases hc
theorem cases_strs {h : Hs} : ∀ {xs : List D}, xs.all (caseB h) = true → ∃ ns : List Str, xs.map fstD = ns.map PyData.str ∧ ∀ x ∈ ns, okS x
  | [], _ => ⟨[], rfl, fun _ z => nomatch z⟩
  | x :: xs, hh => by
    rw [List.all_cons, Bool.and_eq_true] at hh
    obtain ⟨y, e, hy, _⟩ := case_of hh.1
    obtain ⟨ns, e2, hn⟩ := cases_strs hh.2
    refine ⟨y :: ns, by rw [List.map_cons, e, e2]; rfl, fun z hz => ?_⟩
    rcases List.mem_cons.mp hz with e | e
    · rw [e]; exact hy
    · exact hn z e
section
variable {K : PySem.W.Frag} {wd : PySem.World}
def tis_case (K : PySem.W.Frag) (wd : PySem.World) : TS := (tSeq (tIfS (tNot (tB (tCall (spOf K Ris_tuple) [] E0 (tCons (tVar 1) (tCons (tC (.int 6)) (tCons (tC (.int 6)) tNil)))))) (tRet (tC (.bl false))) tNext) (tSeq (tAsg (tVar 0) (gTup K 2 (gCons (gName 2) (gCons (gName 3) gNil)))) (tSeq (tAsg (tVar 1) (gTup K 6 (gCons (gName 4) (gCons (gName 5) (gCons (gName 6) (gCons (gName 7) (gCons (gName 8) (gCons (gName 9) gNil)))))))) (tSeq (tIfS (tOr (tNot (tB (tCall (spOf K Ris_name) [] E0 (tCons (tVar 4) tNil)))) (tNot (tB (tCall (spOf K Ris_number) [] E0 (tCons (tVar 9) (tCons (tC (.int 0)) (tCons (tC (.int 600)) tNil))))))) (tRet (tC (.bl false))) tNext) (tRet (tAndV (tCall (spOf K Rare_times) [] E0 (tCons (tVar 5) (tCons (tVar 6) tNil))) (tAndV (tCall (spOf K Ris_team) [] E0 (tCons (tVar 3) (tCons (tVar 7) tNil))) (tCall (spOf K Rare_places) [] E0 (tCons (tVar 2) (tCons (tVar 8) tNil))))))))))
theorem go_is_case (ss : List SV) (g : List Cell) (post : D → List Cell → Prop) (h : Ris_case ss g post) : GoS K g.length (tis_case K wd) (ss ++ List.replicate (10 - ss.length) .no) g (KF g.length post) := by
  obtain ⟨h, d, rfl, rfl, sb, p⟩ := h
  unfold tis_case
  refine gs_seq (gs_if (gt_not (gt_B (gd_call (gs_cons (gd_var rfl (gs_cons (gd_int (gs_cons (gd_int (gs_nil ⟨d, 6, 6, rfl, rfl, _, rfl, fun hb => gs_ret (gd_bl ⟨_, rfl, ?_⟩), fun hb => gs_next ?_⟩)))))))))))
  · have hb := not_tt hb
    have e : caseB h d = false := by
      unfold caseB
      split
      · cases hb
      · rfl
    rw [e] at p
    exact p
  obtain ⟨nm, us, lo, tm, pl, fi, rfl⟩ := tup6 (not_ff hb)
  have p : post (.bool ((nameB nm && numB fi 0 600) && (timesB us lo && (teamB h.ppl tm && placesB h.rooms pl)))) [] := p
  have sbs := sbx_tup sb
  refine gs_seq (gs_asgG (gd_var rfl (gg2 ?_)))
  refine gs_seq (gs_asgG (gd_var rfl (gg_tup rfl (ggs_cons (gg_name (ggs_cons (gg_name (ggs_cons (gg_name (ggs_cons (gg_name (ggs_cons (gg_name (ggs_cons (gg_name (ggs_nil ?_))))))))))))))))
  refine gs_seq (gs_if (gt_or (gt_not (gt_B (gd_call (gs_cons (gd_var rfl (gs_nil ⟨nm, rfl, rfl, sbx_str (sbs nm (by simp)), _, rfl, fun h1 => ?_, fun h1 => ⟨fun _ => gs_ret (gd_bl ⟨_, rfl, ?_⟩), fun z => nomatch z⟩⟩))))))))
  rotate_left
  · rw [not_tt h1, Bool.false_and, Bool.false_and] at p
    exact p
  rw [not_ff h1, Bool.true_and] at p
  refine gt_not (gt_B (gd_call (gs_cons (gd_var rfl (gs_cons (gd_int (gs_cons (gd_int (gs_nil ⟨fi, 0, 600, rfl, rfl, _, rfl, fun h2 => gs_ret (gd_bl ⟨_, rfl, ?_⟩), fun h2 => gs_next ?_⟩)))))))))
  · rw [not_tt h2, Bool.false_and] at p
    exact p
  rw [not_ff h2, Bool.true_and] at p
  refine gs_ret (gd_and (gd_call (gs_cons (gd_var rfl (gs_cons (gd_var rfl (gs_nil ⟨us, lo, rfl, rfl, _, rfl, fun h3 => ?_, fun h3 => ⟨_, rfl, ?_⟩⟩)))))))
  · rw [h3, Bool.true_and] at p
    refine gd_and (gd_call (gs_cons (gd_var rfl (gs_cons (gd_var rfl (gs_nil ⟨h.ppl, tm, rfl, rfl, sbs tm (by simp), _, rfl, fun h4 => ?_, fun h4 => ⟨_, rfl, ?_⟩⟩))))))
    · rw [h4, Bool.true_and] at p
      exact gd_call (gs_cons (gd_var rfl (gs_cons (gd_var rfl (gs_nil ⟨h.rooms, pl, rfl, rfl, sbs pl (by simp), _, rfl, p⟩)))))
    · rw [h4, Bool.false_and] at p
      exact p
  · rw [h3, Bool.false_and] at p
    exact p
def encCB (h : Hs) (x : D) : D := .bool (caseB h x)
def tare_cases (K : PySem.W.Frag) (wd : PySem.World) : TS := (tSeq (tIfS (tNot (tB (tCall (spOf K Ris_tuple) [] E0 (tCons (tVar 1) (tCons (tC (.int 0)) (tCons (tC (.int 8)) tNil)))))) (tRet (tC (.bl false))) tNext) (tSeq (tIfS (tNot (tB (tCB (rAll K) (tCons (tLc (iTup K (tVar 1)) (gName 2) tYes (tCall (spOf K Ris_case) [] E0 (tCons (tVar 0) (tCons (tVar 2) tNil))) [2]) tNil)))) (tRet (tC (.bl false))) tNext) (tRet (tCall (spOf K Ris_rising) [] E0 (tCons (tLc (iTup K (tVar 1)) (gName 2) tYes (tOp (rIx K) (tVar 2) (tC (.int 0))) [2]) tNil)))))
theorem go_are_cases (ss : List SV) (g : List Cell) (post : D → List Cell → Prop) (h : Rare_cases ss g post) : GoS K g.length (tare_cases K wd) (ss ++ List.replicate (3 - ss.length) .no) g (KF g.length post) := by
  obtain ⟨h, d, rfl, rfl, sb, p⟩ := h
  unfold tare_cases
  refine gs_seq (gs_if (gt_not (gt_B (gd_call (gs_cons (gd_var rfl (gs_cons (gd_int (gs_cons (gd_int (gs_nil ⟨d, 0, 8, rfl, rfl, _, rfl, fun hb => gs_ret (gd_bl ⟨_, rfl, ?_⟩), fun hb => gs_next ?_⟩)))))))))))
  · have hb := not_tt hb
    rw [tup0] at hb
    have e : casesB h d = false := by
      cases d with
      | tuple xs =>
        show (decide ((xs.length : Int) ≤ 8) && _) = false
        have hb2 : decide ((xs.length : Int) ≤ 8) = false := hb
        rw [hb2, Bool.false_and]
      | _ => rfl
    rw [e] at p
    exact p
  have hb := not_ff hb
  rw [tup0] at hb
  cases d with
  | tuple xs =>
    have hl := of_decide_eq_true (show decide ((xs.length : Int) ≤ 8) = true from hb)
    have e : casesB h (.tuple xs) = (xs.all (caseB h) && risB (xs.map fstD)) := by
      show (decide ((xs.length : Int) ≤ 8) && _) = _
      rw [decide_eq_true hl, Bool.true_and]
    rw [e] at p
    refine gs_seq (gs_if (gt_not (gt_B (gd_cb (r := rAll K) (gs_cons (gd_mapT id (encCB h) mg_name (ij_name (by simp)) (gi_tup (gd_var rfl ⟨_, rfl, xs, (List.map_id xs).symm, by omega, fun i x hx => gg_name (gd_call (gs_cons (gd_var rfl (gs_cons (gd_var rfl (gs_nil ⟨h, x, rfl, rfl, sbx_tup sb x (List.mem_of_getElem? hx), rfl, rfl⟩)))))), ?_⟩))))))))
    have e1 : xs.map (encCB h) = (xs.map (caseB h)).map PyData.bool := by rw [List.map_map]; rfl
    rw [e1]
    refine gs_nil (opd_all ?_)
    rw [List.all_map]
    refine ⟨_, rfl, fun ha => gs_ret (gd_bl ⟨_, rfl, ?_⟩), fun ha => gs_next ?_⟩
    · have ha : xs.all (caseB h) = false := not_tt ha
      rw [ha, Bool.false_and] at p
      exact p
    · have ha : xs.all (caseB h) = true := not_ff ha
      rw [ha, Bool.true_and] at p
      obtain ⟨ns, e2, hn⟩ := cases_strs ha
      have ln : ns.length = xs.length := by
        have := congrArg List.length e2
        rw [List.length_map, List.length_map] at this
        exact this.symm
      refine gs_ret (gd_call (gs_cons (gd_mapT id fstD mg_name (ij_name (by simp)) (gi_tup (gd_var rfl ⟨_, rfl, xs, (List.map_id xs).symm, by omega, fun i x hx => gg_name ?_, ?_⟩)))))
      · obtain ⟨y, ef, _, ys, rfl⟩ := case_of (List.all_eq_true.mp ha x (List.mem_of_getElem? hx))
        exact gd_op (gd_var rfl (gd_int (opd_ixT (d := .str y) (by show atI (PyData.str y :: ys) ((0 : Nat) : Int) = _; exact atI_nat rfl) ⟨rfl, rfl⟩)))
      · rw [e2] at p ⊢
        exact gs_nil ⟨_, ns.map PyData.str, rfl, rfl, .inl rfl, okR_strs (by omega) hn, _, rfl, p⟩
  | _ => cases hb
end
end Go
/-! set(t), t a tuple of whole numbers and texts -/
namespace SetMix
open PySem PySem.Spec PyProof.Rows L2
section
variable {P : Program} {wd : World} {A : Around} {E : Value → Shared → Prop} {st : Shared}
theorem call_set_keysT {l : Addr} {items : Array Value} (ks : List Key) {Q : Value → Shared → Prop} (hh : A.handled = none) (hl : st.heap.IsTuple l items) (hit : KeysAre items.toList ks) (hb : ks.length + 1 < scanBound)
    (h : ∀ (hq : Heap) (tk c : Nat), Tab wd hq st.heap.objs.size (fun j => inK ks j) c → c ≤ ks.length → (∀ b o, st.heap.get? b = some o → hq.get? b = some o) → Q (.ref st.heap.objs.size) { st with heap := hq, toks := tk }) :
    wpAny (model P wd) A (call (.type "set") [.ref l]) Q E st := by
  have hisz : items.size = ks.length := by
    have q := Paired.length hit
    rw [Array.length_toList] at q
    exact q
  obtain ⟨_, _, mro1⟩ := F.called_set.mro
  have made1 := F.called_set.made
  have sub1 := F.called_set.sub
  refine wpAny_call (codeAny_of_tree ?_)
  show wpAny _ _ (callAny (.type "set") _) _ _ _
  refine wpAny_pure ⟨Code.quiet_builtin _ (by decide +kernel), codeAny_builtin F.entry_type_call ?_⟩
  rw [Around.under_plain (weight_type_call_type "set" [.ref l] []) rfl]
  have nt1 := F.called_set.notType
  have cc1 := F.called_set.canCreate
  have tc1 := F.typeCall_set_1 (.ref l)
  repeat (any_goals (first | assumption | wp_step))
  refine codeAny_mono (code_set_led1 (.ref l) (E := E) (Q₁ := fun obj s1 => obj = .ref st.heap.objs.size ∧ s1 = { st with heap := st.heap.push (freshSet wd) }) ⟨rfl, rfl⟩) fun r s1 hr => ?_
  cases r with
  | error e => exact hr
  | ok fl =>
    cases fl with
    | ret obj =>
      obtain ⟨rfl, rfl⟩ := hr
      have gS : (st.heap.push (freshSet wd)).get? st.heap.objs.size = some (freshSet wd) := Heap.get?_push_size _ rfl
      have tS : Shared.TypeIs { st with heap := st.heap.push (freshSet wd) } (.ref st.heap.objs.size) "set" := ⟨_, gS, rfl⟩
      have li1 := F.called_set.init.lookup
      have bi1 := F.called_set.init.bind (.ref st.heap.objs.size)
      repeat (any_goals (first | assumption | wp_step))
      refine codeAny_mono (codeAny_call_builtin (R := wants (fun r s2 => r = .none ∧ ∃ hq tk c, s2 = { st with heap := hq, toks := tk } ∧ Tab wd hq st.heap.objs.size (fun j => inK ks j) c ∧ c ≤ ks.length ∧
          (∀ b o, st.heap.get? b = some o → hq.get? b = some o)) E) F.called_set.init.plain F.entry_set_init (check_set_init_1 tS ?_)) fun r2 s2 hr2 => ?_
      · obtain ⟨ol, hol, hcl, nl, hdl⟩ := hl
        obtain ⟨oc, od, oda, osl⟩ := ol
        simp only at hcl hdl
        subst hcl; subst hdl
        have hol' : (st.heap.push (freshSet wd)).get? l = some { cls := .type "tuple", dict := od, data := .seq items nl, slots := osl } := Heap.get?_push_of_some _ hol
        have ls1 := F.sub_tuple_set
        have lf1 := F.sub_tuple_frozenset
        have ne1 : (Value.type "tuple" == Value.type "dict") = false := by decide
        have hl1 : (st.heap.push (freshSet wd)).IsTuple l items := ⟨_, hol', rfl, nl, rfl⟩
        unfold Builtin.«set.__init__» noKeywords Builtin.Frozenset.updateFrom
        generalize hPI : pyIter = PI
        wp_walk
        subst hPI
        refine wpAny_pyIter_tuple hl1 ?_
        refine wpAny_bind (wpAny_runValue ?_)
        have lt1 : l < st.heap.objs.size := Heap.lt_size hol
        have hh3 : A.in1.in1.in1.handled = none := by simp [hh]
        have neI : l ≠ (st.heap.push (freshSet wd)).objs.size := by rw [Heap.size_push]; exact Nat.ne_of_lt (Nat.lt_succ_of_lt lt1)
        have nSf : st.heap.objs.size ∉ [(st.heap.push (freshSet wd)).objs.size, l] := by
          rw [Heap.size_push]
          intro z
          rcases List.mem_cons.mp z with z | z
          · exact absurd z (Nat.ne_of_lt (Nat.lt_succ_self _))
          · rw [List.mem_singleton] at z
            exact absurd z (Nat.ne_of_gt lt1)
        have hval : ∀ (i : Nat) (v : Value), items[i]? = some v → ∃ k, ks[i]? = some k ∧ keyIs k v = true := fun i v hv => by
          have hi : i < ks.length := by rw [← hisz]; exact (Array.getElem?_eq_some_iff.mp hv).1
          obtain ⟨v', e, q⟩ := Go.Paired.get hit (List.getElem?_eq_getElem hi)
          rw [Array.getElem?_toList, hv] at e
          cases e
          exact ⟨_, List.getElem?_eq_getElem hi, q⟩
        refine upd_loop ((Walks.tuple hh3 _ l neI items).toS) st.heap.objs.size nSf ks hisz hb hval (items.size - 0) 0 _ (by omega) (Nat.zero_le _) ⟨⟨_, Heap.get?_push_size _ rfl, rfl, rfl⟩, (hl1.push _)⟩ ?start ?fin
        case start => exact ⟨0, Nat.le_refl 0, tab_new (Heap.get?_push_of_some _ gS)⟩
        case fin =>
          intro s' c' hm hc' hT'
          obtain ⟨h2, g2, d2, tk2, os2⟩ := s'
          have eg : g2 = st.gens := hm.gens
          have ed : d2 = st.drawn := hm.drawn
          have eo : os2 = st.os := hm.os
          subst eg; subst ed; subst eo
          show wpAny _ _ _ _ _ _
          refine wpAny_pure ?_
          show wpAny _ _ (ret Value.none) _ _ _
          rw [hisz] at hc'
          refine wpAny_pure ⟨rfl, h2, tk2, c', rfl, hT', hc', fun b o e => ?_⟩
          have b0 : b < st.heap.objs.size := Heap.lt_size e
          refine hm.heap b o (fun z => ?_) (Heap.get?_push_of_some _ (Heap.get?_push_of_some _ e))
          rcases List.mem_cons.mp z with z | z
          · exact absurd z (Nat.ne_of_lt b0)
          · rw [List.mem_singleton, Heap.size_push] at z
            exact absurd z (Nat.ne_of_lt (Nat.lt_succ_of_lt b0))
      · cases r2 with
        | error e => exact hr2
        | ok fl2 =>
          cases fl2 with
          | ret r =>
            obtain ⟨rfl, hq, tk, c', rfl, hT', hc', hk'⟩ := hr2
            repeat (any_goals (first | assumption | wp_step))
            exact h _ _ _ hT' hc' hk'
          | _ => exact hr2.elim
    | _ => exact hr.elim
end
end SetMix
namespace Go
open PySem PySem.Spec PyProof.Rows L2 SetMix ZipE
open Evl (Ex)
local macro_rules | `(tactic| walk_at "g") => `(tactic| first
  | ((with_reducible refine gd_var (d := ?dd) ?hv ?_); (case hv => exact rfl))
  | ((with_reducible refine gd_ixScr (ns := ?ns) ?hv ?_); (case hv => exact rfl))
  | ((with_reducible refine gd_ixCel (j := ?jj) ?hv ?_); (case hv => exact rfl))
  | ((with_reducible refine gd_lenScr (ns := ?ns) ?hv ?_); (case hv => exact rfl))
  | with_reducible first
    | refine gs_seq ?_ | refine gs_next ?_ | refine gs_ret ?_ | refine gs_asgD ?_ | refine gs_if ?_
    | refine gt_test ?_ | refine gt_B ?_ | refine gt_and ?_ | refine gt_or ?_ | refine gt_not ?_ | refine gt_yes ?_
    | refine gd_int ?_ | refine gd_str ?_ | refine gd_bl ?_ | refine gd_non ?_
    | refine gd_op ?_ | refine gd_tup ?_ | refine gd_lst ?_
    | refine gd_cb (r := rLenA _) ?_ | refine gd_cb (r := rTupleA _) ?_ | refine gd_cb (r := rAbsA) ?_ | refine gd_cb (r := rMax2A) ?_ | refine gd_cb (r := rMin2A) ?_ | refine gd_cb (r := rIntA) ?_ | refine gd_cb (r := rAny _) ?_ | refine gd_cb (r := rAll _) ?_ | refine gd_cb (r := rDictP _) ?_ | refine gd_cb (r := rMax _) ?_ | refine gd_cb (r := rMin _) ?_
    | refine gs_cons ?_ | refine gs_nil ?_ | refine gd_dget ?_
    | refine gd_and ?_ | refine gd_or ?_ | refine gd_not ?_
    | refine opd_addI ?_ | refine opd_sub ?_ | refine opd_lt ?_ | refine opd_le ?_ | refine opd_gt ?_ | refine opd_ge ?_
    | refine opd_lenL ?_ | refine opd_lenT ?_ | refine opd_tupleL ?_ | refine opd_tupleT ?_ | refine opd_max2 ?_ | refine opd_min2 ?_ | refine opd_abs ?_ | refine opd_intB ?_
    | refine Exists.intro _ (And.intro rfl ?_))
/-! ### set(t), t a tuple; a list and its own sorted set -/
section
variable {X : Cx}
def rSetOfT (K : PySem.W.Frag) (wd : PySem.World) : List V → Hp → VK → Prop := fun xs H Q => ∃ (l : Addr) (ks : List Key), xs = [V.ref l] ∧ SqT K H l (ks.map kV) ∧ ks.length < 4000 ∧ ∀ p c, H p = none → c ≤ ks.length → Q (.ref p) (upd H p (SetMO wd p (fun j => inK ks j) c))
theorem cr_setOfT (hc : X.calm = true) : CallR X (.type "set") (rSetOfT X.K X.w) := by
  intro pins s σ H xs us Q I r h
  obtain ⟨l, ks, rfl, hl, hz, q⟩ := h
  rw [Vals.ref1 r]
  obtain ⟨its, rv, pl, _⟩ := I.tuple hl
  refine call_set_keysT ks (I.ok.hd hc) (by obtain ⟨o, e1, e2, e3⟩ := pl; exact ⟨o, e1, e2, e3⟩) (by simpa using vals_keys rv) (by unfold scanBound; omega) fun hq tk c T hc2 hk => ?_
  exact ⟨.ref _, _, I.laid (t' := tk) hk (Nat.le_refl _) (setMO_ok T), rfl, q _ c (I.hok.fresh (Nat.le_refl _)) hc2⟩
end
section
variable {K : PySem.W.Frag} {n : Nat} {ρ ts : List SV} {g : List Cell}
theorem gd_sortsetT {wd : PySem.World} {te : TE} {post : D → List Cell → Prop} (h : GoD K n te ρ ts g fun d g1 => ∃ ks : List Key, d = .tuple (ks.map kD) ∧ ks.length < 4000 ∧ OneKind ks ∧
      ∀ ks' ks0 : List Key, ks' = ks0.mergeSort (PySem.W.dataLe false kD) → ks0.Nodup → (∀ k, k ∈ ks0 ↔ k ∈ ks) → post (.list (ks'.map kD)) g1) :
    GoD K n (tCB (rSortedA K wd) (tCons (tCB (rSetOfT K wd) (tCons te tNil)) tNil)) ρ ts g post := by
  intro I0 H0 bs σ vs H hn w Q q
  refine h I0 H0 bs σ vs H hn w _ fun v H1 s g1 ⟨I, ls, w1⟩ ⟨d, e, ks, e2, hz, one, p⟩ => ?_
  subst e e2
  obtain ⟨w2, r⟩ := w1.pop
  cases r with
  | d i =>
    obtain ⟨a, xs, rfl, hs, ha⟩ := is_tup i
    rw [is_keys ha] at hs
    refine ⟨a, ks, rfl, Evl.ex_t w2.fr.ih hs, hz, fun s c hs0 hc => .inr ⟨s, _, c, rfl, upd_same, fun l hl => ?_, fun ks' ks0 t hk nd hm _ ht => ?_⟩⟩
    · rcases one with o | o
      · exact .inl fun k hk => o k (inK_iff.mp (hl k hk))
      · exact .inr fun k hk => o k (inK_iff.mp (hl k hk))
    · have f1 : Fr [] I H1 I (upd H1 s (SetMO wd s (fun j => inK ks j) c)) := by
        have hx : ∀ b o, H1 b = some o → upd H1 s (SetMO wd s (fun j => inK ks j) c) b = some o := fun b o e => by rw [upd_ne (ne_of_none e hs0)]; exact e
        refine ⟨Ex.refl I, fun b o e => hx b o (w2.fr.ih b o e), fun b o _ e => hx b o e, fun b e => ?_, fun _ _ e => e⟩
        cases z : H1 b with
        | none => exact absurd z e
        | some o => rw [hx b o z]; exact fun y => nomatch y
      have w3 := w2.step f1
      have pp := p ks' ks0 hk nd fun k => (hm k).trans inK_iff
      exact outL (post := fun d => post d g1) (Q := Q) w3.fr.ih (fun v I' H' d f i p => q v H' (.d d) g1 ⟨I', ls, (w3.step f).push (.d i)⟩ ⟨d, rfl, p⟩) (keys_is ks') pp ht
end
/-! a list is its own sorted set just where it rises -/
theorem st_eq {α : Type} {lt : α → α → Prop} (asy : ∀ a b, lt a b → ¬ lt b a) : ∀ {xs ys : List α}, xs.Pairwise lt → ys.Pairwise lt → (∀ a, a ∈ xs ↔ a ∈ ys) → xs = ys
  | [], [], _, _, _ => rfl
  | [], y :: ys, _, _, h => nomatch (h y).mpr List.mem_cons_self
  | x :: xs, [], _, _, h => nomatch (h x).mp List.mem_cons_self
  | x :: xs, y :: ys, p, q, h => by
    have p2 := List.pairwise_cons.mp p
    have q2 := List.pairwise_cons.mp q
    have exy : x = y := by
      rcases List.mem_cons.mp ((h x).mp List.mem_cons_self) with e | e
      · exact e
      · rcases List.mem_cons.mp ((h y).mpr List.mem_cons_self) with e2 | e2
        · exact e2.symm
        · exact absurd (p2.1 y e2) (asy _ _ (q2.1 x e))
    subst exy
    have irr : ∀ a, ¬ lt a a := fun a z => asy _ _ z z
    rw [st_eq asy p2.2 q2.2 fun a => ⟨fun m => ?_, fun m => ?_⟩]
    · rcases List.mem_cons.mp ((h a).mp (List.mem_cons_of_mem _ m)) with e | e
      · subst e; exact absurd (p2.1 _ m) (irr _)
      · exact e
    · rcases List.mem_cons.mp ((h a).mpr (List.mem_cons_of_mem _ m)) with e | e
      · subst e; exact absurd (q2.1 _ m) (irr _)
      · exact e
structure Ord (α : Type) (enc : α → D) : Prop where
  tri : ∀ a b, a ≠ b → PySem.W.dataLt (enc b) (enc a) = false → PySem.W.dataLt (enc a) (enc b) = true
  irr : ∀ a, PySem.W.dataLt (enc a) (enc a) = false
  inj : ∀ a b, PyData.eqv (enc a) (enc b) = true → a = b
section
variable {α : Type} {enc : α → D}
theorem Ord.le_lt (o : Ord α enc) {a b : α} (h : PySem.W.dataLt (enc a) (enc b) = true) : PySem.W.dataLt (enc b) (enc a) = false := by
  have tot : PySem.W.TotalLe (PySem.W.dataLe false enc) := PySem.W.sortLe_total _ false _
  rcases tot.total a b with z | z
  · have z : (!PySem.W.dataLt (enc b) (enc a)) = true := z
    simpa using z
  · have z : (!PySem.W.dataLt (enc a) (enc b)) = true := z
    rw [h] at z
    cases z
theorem Ord.pw (o : Ord α enc) : ∀ {xs : List α}, risB (xs.map enc) = true → xs.Pairwise fun a b => PySem.W.dataLt (enc a) (enc b) = true
  | [], _ => .nil
  | [a], _ => List.pairwise_singleton _ _
  | a :: b :: r, h => by
    have h : (PySem.W.dataLt (enc a) (enc b) && risB ((b :: r).map enc)) = true := h
    rw [Bool.and_eq_true] at h
    have ih := o.pw h.2
    have tot : PySem.W.TotalLe (PySem.W.dataLe false enc) := PySem.W.sortLe_total _ false _
    refine List.pairwise_cons.mpr ⟨fun c hc => ?_, ih⟩
    rcases List.mem_cons.mp hc with e | e
    · rw [e]; exact h.1
    · have bc := (List.pairwise_cons.mp ih).1 c e
      have le1 : PySem.W.dataLe false enc a b = true := by
        show (!PySem.W.dataLt (enc b) (enc a)) = true
        rw [o.le_lt h.1]; rfl
      have le2 : PySem.W.dataLe false enc b c = true := by
        show (!PySem.W.dataLt (enc c) (enc b)) = true
        rw [o.le_lt bc]; rfl
      have le3 : (!PySem.W.dataLt (enc c) (enc a)) = true := tot.trans _ _ _ le1 le2
      refine o.tri _ _ (fun e => ?_) (by simpa using le3)
      subst e
      rw [o.le_lt bc] at h
      exact nomatch h.1
theorem ris_of : ∀ {xs : List α}, (xs.Pairwise fun a b => PySem.W.dataLt (enc a) (enc b) = true) → risB (xs.map enc) = true
  | [], _ => rfl
  | [a], _ => rfl
  | a :: b :: r, h => by
    have h2 := List.pairwise_cons.mp h
    show (PySem.W.dataLt (enc a) (enc b) && risB ((b :: r).map enc)) = true
    rw [h2.1 b List.mem_cons_self, ris_of h2.2]
    rfl
theorem Ord.all (o : Ord α enc) : ∀ {a b : List α}, PyData.eqvAll (a.map enc) (b.map enc) = true → a = b
  | [], [], _ => rfl
  | [], _ :: _, h => by simp [PyData.eqvAll] at h
  | _ :: _, [], h => by simp [PyData.eqvAll] at h
  | x :: a, y :: b, h => by
    rw [List.map_cons, List.map_cons] at h
    unfold PyData.eqvAll at h
    rw [Bool.and_eq_true] at h
    rw [o.inj _ _ h.1, o.all h.2]
theorem Ord.sset (o : Ord α enc) {xs ys : List α} (mem : ∀ a, a ∈ ys ↔ a ∈ xs) (nd : ys.Nodup) (so : ys.Pairwise fun a b => PySem.W.dataLe false enc a b = true) (sh : SeqAt.shaped (.list (xs.map enc)) = true) : PyData.eqv (.list (xs.map enc)) (.list (ys.map enc)) = risB (xs.map enc) := by
  have py : ys.Pairwise fun a b => PySem.W.dataLt (enc a) (enc b) = true := by
    have nd2 : ys.Pairwise (· ≠ ·) := nd
    refine (nd2.and so).imp fun {a b} ⟨ne, le⟩ => o.tri _ _ ne ?_
    have le : (!PySem.W.dataLt (enc b) (enc a)) = true := le
    simpa using le
  by_cases h : risB (xs.map enc) = true
  · have e : xs = ys := st_eq (fun a b h1 h2 => by rw [o.le_lt h1] at h2; cases h2) (o.pw h) py fun a => (mem a).symm
    rw [h, ← e]
    exact eqv_sh sh
  · rw [Bool.eq_false_iff.mpr h, Bool.eq_false_iff]
    intro z
    apply h
    have z : PyData.eqvAll (xs.map enc) (ys.map enc) = true := by simpa [PyData.eqv] using z
    rw [o.all z]
    exact ris_of py
end
theorem ord_str : Ord Str PyData.str where
  tri := fun a b ne h => by
    rw [PySem.W.dataLt_str] at h ⊢
    exact decide_eq_true (cps_tri ne (by simpa using h))
  irr := fun a => by
    rw [PySem.W.dataLt_str]
    exact decide_eq_false (slt_irr a)
  inj := fun a b h => by simpa [PyData.eqv] using h
theorem ord_int : Ord Int PyData.int where
  tri := fun a b ne h => by
    rw [PySem.W.dataLt_int] at h ⊢
    have := of_decide_eq_false h
    exact decide_eq_true (by omega)
  irr := fun a => by
    rw [PySem.W.dataLt_int]
    exact decide_eq_false (by omega)
  inj := fun a b h => by
    have : PyData.eqv (.int a) (.int b) = decide (a = b) := eqvI a b
    rw [this] at h
    exact of_decide_eq_true h
theorem keyS {xs : List Str} {ks' ks0 : List Key} (ok : ∀ x ∈ xs, okS x) (hk : ks' = ks0.mergeSort (PySem.W.dataLe false kD)) (nd : ks0.Nodup) (hm : ∀ k, k ∈ ks0 ↔ k ∈ xs.map (Sum.inr : Str → Key)) :
    SeqAt.shaped (.list (xs.map PyData.str)) = true ∧ SeqAt.shaped (.list (ks'.map kD)) = true ∧ PyData.eqv (.list (xs.map PyData.str)) (.list (ks'.map kD)) = risB (xs.map PyData.str) := by
  have mem : ∀ k, k ∈ ks' ↔ k ∈ xs.map (Sum.inr : Str → Key) := fun k => by rw [hk, (List.mergeSort_perm _ _).mem_iff, hm k]
  obtain ⟨ys, ey⟩ := strs_of_keys (ks := ks') fun k hk' => by
    obtain ⟨x, _, rfl⟩ := List.mem_map.mp ((mem k).mp hk')
    exact ⟨x, rfl⟩
  have up := up_of_sort hk nd
  rw [ey] at up mem
  have mm : ∀ y, y ∈ ys ↔ y ∈ xs := fun y => ⟨fun hy => by
    obtain ⟨x, hx, e⟩ := List.mem_map.mp ((mem _).mp (List.mem_map.mpr ⟨y, hy, rfl⟩))
    cases e
    exact hx, fun hy => by
    obtain ⟨x, hx, e⟩ := List.mem_map.mp ((mem _).mpr (List.mem_map.mpr ⟨y, hy, rfl⟩))
    cases e
    exact hx⟩
  have sh : ∀ l : List Str, (∀ x ∈ l, okS x) → SeqAt.shaped (.list (l.map PyData.str)) = true := fun l hl => shapedL PyData.str hl fun _ _ => by simp [PyData.depth]
  rw [ey, kD_strs]
  refine ⟨sh xs ok, sh ys fun y hy => ok y ((mm y).mp hy), ord_str.sset mm (List.Pairwise.of_map (Sum.inr : Str → Key) (fun a b hne e => hne (congrArg _ e)) up.1) ?_ (sh xs ok)⟩
  exact List.Pairwise.of_map (Sum.inr : Str → Key) (fun a b h => h) up.2
theorem keyI {xs : List Int} {ks' ks0 : List Key} (hk : ks' = ks0.mergeSort (PySem.W.dataLe false kD)) (nd : ks0.Nodup) (hm : ∀ k, k ∈ ks0 ↔ k ∈ xs.map (Sum.inl : Int → Key)) :
    SeqAt.shaped (.list (xs.map PyData.int)) = true ∧ SeqAt.shaped (.list (ks'.map kD)) = true ∧ PyData.eqv (.list (xs.map PyData.int)) (.list (ks'.map kD)) = risB (xs.map PyData.int) := by
  have mem : ∀ k, k ∈ ks' ↔ k ∈ xs.map (Sum.inl : Int → Key) := fun k => by rw [hk, (List.mergeSort_perm _ _).mem_iff, hm k]
  obtain ⟨ys, ey⟩ := ints_of_keys (ks := ks') fun k hk' => by
    obtain ⟨x, _, rfl⟩ := List.mem_map.mp ((mem k).mp hk')
    exact ⟨x, rfl⟩
  have up := up_of_sort hk nd
  rw [ey] at up mem
  have mm : ∀ y, y ∈ ys ↔ y ∈ xs := fun y => ⟨fun hy => by
    obtain ⟨x, hx, e⟩ := List.mem_map.mp ((mem _).mp (List.mem_map.mpr ⟨y, hy, rfl⟩))
    cases e
    exact hx, fun hy => by
    obtain ⟨x, hx, e⟩ := List.mem_map.mp ((mem _).mpr (List.mem_map.mpr ⟨y, hy, rfl⟩))
    cases e
    exact hx⟩
  have sh : ∀ l : List Int, SeqAt.shaped (.list (l.map PyData.int)) = true := fun l => shapedL PyData.int (fun _ _ => by simp [PyData.canLay0]) fun _ _ => by simp [PyData.depth]
  rw [ey, kD_ints]
  refine ⟨sh xs, sh ys, ord_int.sset mm (List.Pairwise.of_map (Sum.inl : Int → Key) (fun a b hne e => hne (congrArg _ e)) up.1) ?_ (sh xs)⟩
  exact List.Pairwise.of_map (Sum.inl : Int → Key) (fun a b h => h) up.2
section
variable {K : PySem.W.Frag} {wd : PySem.World} {n : Nat} {ρ ts : List SV} {g : List Cell}
/-- x == sorted(set(x)), x a list of texts or of numbers -/
theorem gd_upS {tx te : TE} {xs : List Str} {post : D → List Cell → Prop} (ok : ∀ x ∈ xs, okS x) (hl : xs.length < 4000) (h : GoD K n tx ρ ts g fun d g1 => d = .list (xs.map PyData.str) ∧ GoD K n te ρ (.d d :: ts) g1 fun d2 g2 => d2 = .list (xs.map PyData.str) ∧ post (.bool (risB (xs.map PyData.str))) g2) :
    GoD K n (tOp (rEqD K) tx (tCB (rSortedA K wd) (tCons (tCB (rSetOf K wd) (tCons te tNil)) tNil))) ρ ts g post := by
  refine gd_op (GoD.imp h fun d g1 ⟨e, h2⟩ => ?_)
  subst e
  refine gd_sortset (GoD.imp h2 fun d2 g2 ⟨e2, p⟩ => ⟨xs.map Sum.inr, by rw [kD_strs]; exact e2, by rw [List.length_map]; exact hl, .inr fun k hk => ?_, fun ks' ks0 hk nd hm => ?_⟩)
  · obtain ⟨x, _, rfl⟩ := List.mem_map.mp hk
    exact ⟨x, rfl⟩
  · obtain ⟨s1, s2, e⟩ := keyS ok hk nd hm
    refine opd_eq s1 s2 ?_
    rw [e]
    exact p
theorem gd_upST {tx te : TE} {xs : List Str} {post : D → List Cell → Prop} (ok : ∀ x ∈ xs, okS x) (hl : xs.length < 4000) (h : GoD K n tx ρ ts g fun d g1 => d = .list (xs.map PyData.str) ∧ GoD K n te ρ (.d d :: ts) g1 fun d2 g2 => d2 = .tuple (xs.map PyData.str) ∧ post (.bool (risB (xs.map PyData.str))) g2) :
    GoD K n (tOp (rEqD K) tx (tCB (rSortedA K wd) (tCons (tCB (rSetOfT K wd) (tCons te tNil)) tNil))) ρ ts g post := by
  refine gd_op (GoD.imp h fun d g1 ⟨e, h2⟩ => ?_)
  subst e
  refine gd_sortsetT (GoD.imp h2 fun d2 g2 ⟨e2, p⟩ => ⟨xs.map Sum.inr, by rw [kD_strs]; exact e2, by rw [List.length_map]; exact hl, .inr fun k hk => ?_, fun ks' ks0 hk nd hm => ?_⟩)
  · obtain ⟨x, _, rfl⟩ := List.mem_map.mp hk
    exact ⟨x, rfl⟩
  · obtain ⟨s1, s2, e⟩ := keyS ok hk nd hm
    refine opd_eq s1 s2 ?_
    rw [e]
    exact p
theorem gd_upIT {tx te : TE} {xs : List Int} {post : D → List Cell → Prop} (hl : xs.length < 4000) (h : GoD K n tx ρ ts g fun d g1 => d = .list (xs.map PyData.int) ∧ GoD K n te ρ (.d d :: ts) g1 fun d2 g2 => d2 = .tuple (xs.map PyData.int) ∧ post (.bool (risB (xs.map PyData.int))) g2) :
    GoD K n (tOp (rEqD K) tx (tCB (rSortedA K wd) (tCons (tCB (rSetOfT K wd) (tCons te tNil)) tNil))) ρ ts g post := by
  refine gd_op (GoD.imp h fun d g1 ⟨e, h2⟩ => ?_)
  subst e
  refine gd_sortsetT (GoD.imp h2 fun d2 g2 ⟨e2, p⟩ => ⟨xs.map Sum.inl, by rw [kD_ints]; exact e2, by rw [List.length_map]; exact hl, .inl fun k hk => ?_, fun ks' ks0 hk nd hm => ?_⟩)
  · obtain ⟨x, _, rfl⟩ := List.mem_map.mp hk
    exact ⟨x, rfl⟩
  · obtain ⟨s1, s2, e⟩ := keyI hk nd hm
    refine opd_eq s1 s2 ?_
    rw [e]
    exact p
end
end Go
namespace Go
open PySem PySem.Spec PyProof.Rows L2 SetMix ZipE
open Evl (Ex)
local macro_rules | `(tactic| walk_at "g") => `(tactic| first
  | ((with_reducible refine gd_var (d := ?dd) ?hv ?_); (case hv => exact rfl))
  | ((with_reducible refine gd_ixScr (ns := ?ns) ?hv ?_); (case hv => exact rfl))
  | ((with_reducible refine gd_ixCel (j := ?jj) ?hv ?_); (case hv => exact rfl))
  | ((with_reducible refine gd_lenScr (ns := ?ns) ?hv ?_); (case hv => exact rfl))
  | with_reducible first
    | refine gs_seq ?_ | refine gs_next ?_ | refine gs_ret ?_ | refine gs_asgD ?_ | refine gs_if ?_
    | refine gt_test ?_ | refine gt_B ?_ | refine gt_and ?_ | refine gt_or ?_ | refine gt_not ?_ | refine gt_yes ?_
    | refine gd_int ?_ | refine gd_str ?_ | refine gd_bl ?_ | refine gd_non ?_
    | refine gd_op ?_ | refine gd_tup ?_ | refine gd_lst ?_
    | refine gd_cb (r := rLenA _) ?_ | refine gd_cb (r := rTupleA _) ?_ | refine gd_cb (r := rAbsA) ?_ | refine gd_cb (r := rMax2A) ?_ | refine gd_cb (r := rMin2A) ?_ | refine gd_cb (r := rIntA) ?_ | refine gd_cb (r := rAny _) ?_ | refine gd_cb (r := rAll _) ?_ | refine gd_cb (r := rDictP _) ?_ | refine gd_cb (r := rMax _) ?_ | refine gd_cb (r := rMin _) ?_
    | refine gs_cons ?_ | refine gs_nil ?_ | refine gd_dget ?_
    | refine gd_and ?_ | refine gd_or ?_ | refine gd_not ?_
    | refine opd_addI ?_ | refine opd_sub ?_ | refine opd_lt ?_ | refine opd_le ?_ | refine opd_gt ?_ | refine opd_ge ?_
    | refine opd_lenL ?_ | refine opd_lenT ?_ | refine opd_tupleL ?_ | refine opd_tupleT ?_ | refine opd_max2 ?_ | refine opd_min2 ?_ | refine opd_abs ?_ | refine opd_intB ?_
    | refine Exists.intro _ (And.intro rfl ?_))
/-! ### any tuple == () -/
def rEqT0 (K : PySem.W.Frag) : R2 := fun x y H Q => ∃ a b xs, x = .ref a ∧ y = .ref b ∧ SqT K H a xs ∧ SqT K H b [] ∧ Q (.bl xs.isEmpty) H
theorem op_eqT0 {X : Cx} (hu : X.A.units + 1 < cLine) : OpR X (compareOp .Eq) (rEqT0 X.K) := by
  intro pins s σ H x y v u Q I rx ry h
  obtain ⟨a, b, xs, rfl, rfl, h1, h2, q⟩ := h
  cases rx
  cases ry
  obtain ⟨i1, r1, p1, _⟩ := I.tuple h1
  obtain ⟨i2, r2, p2, _⟩ := I.tuple h2
  cases r2
  have e1 := r1.length
  have t1 : s.heap.IsTuple a i1.toArray := by obtain ⟨o, e1, e2, e3⟩ := p1; exact ⟨o, e1, e2, e3⟩
  have t2 : s.heap.IsTuple b #[] := by obtain ⟨o, e1, e2, e3⟩ := p2; exact ⟨o, e1, e2, e3⟩
  have rc := SeqAt.RcAt.tuples (A := X.A) (e := fun _ => true) t1 t2 (by omega) fun j _ h2 => absurd h2 (Nat.not_lt_zero j)
  have e : ((List.range (min i1.toArray.size (#[] : Array Value).size)).all (fun _ => true) && i1.toArray.size == (#[] : Array Value).size) = xs.isEmpty := by
    cases xs with
    | nil =>
      cases i1 with
      | nil => rfl
      | cons _ _ => simp at e1
    | cons x xs =>
      cases i1 with
      | nil => simp at e1
      | cons _ _ => simp
  rw [e] at rc
  exact rc _ _ _ _ ⟨.bl _, H, I, rfl, q⟩
section
variable {K : PySem.W.Frag}
theorem opd_eqT0 {ds : List D} {post : D → Prop} (p : post (.bool ds.isEmpty)) : OpD K (un2 (rEqT0 K)) [.tuple ds, .tuple []] post := fun I H ws ex hw Q q => by
  obtain ⟨v, w, rfl, i1, i2⟩ := all2 hw
  obtain ⟨a, xs, rfl, hs, ha⟩ := is_tup i1
  obtain ⟨b, ys, rfl, hs2, ha2⟩ := is_tup i2
  cases ha2
  have e : xs.isEmpty = ds.isEmpty := by
    cases ha with
    | nil => rfl
    | cons _ _ => rfl
  exact ⟨_, _, rfl, a, b, xs, rfl, rfl, Evl.ex_t ex hs, Evl.ex_t ex hs2, out0 ex q (.bl _) (by rw [e]; exact p)⟩
end
section
variable {K : PySem.W.Frag} {n : Nat} {ρ : List SV} {g : List Cell} {κ : Ks}
/-- a, b = (x, y) -/
theorem gs_par {i j : Nat} {ta : TA} (h : GoDs K n ta ρ [] g fun ds g1 => ∃ x y, ds = [x, y] ∧ κ.nx ((ρ.set i (.d x)).set j (.d y)) g1) : GoS K n (tPar i j ta) ρ g κ := by
  intro I0 H0 bs σ H E hn w m
  refine h I0 H0 bs σ [] H hn w _ fun ws H1 ss g1 hl ⟨I, ls, w1⟩ ⟨ds, e, x, y, e2, p⟩ => ?_
  subst e e2
  obtain ⟨w2, r⟩ := w1.pops hl
  obtain ⟨v, w, rfl, i1, i2⟩ := all2 (rels_d r)
  exact ⟨v, w, rfl, m.nx _ H1 _ g1 ⟨I, ls, ⟨w2.fr, w2.ce, w2.lo, Paired.set (.d i2) j (Paired.set (.d i1) i w2.rs), w2.rv⟩⟩ p⟩
end
def R_law_are_names : RSpec := Rare_names
def R_law_is_house : RSpec := Ris_house
def R_law_is_case : RSpec := fun ss g post => ∃ (h : Hs) (d : D), ss = [.d (encH h), .d d] ∧ g = [] ∧ SBx d ∧ post (.bool (caseB h d)) []
def R_law_are_cases : RSpec := Rare_cases
theorem fil_all {α : Type} {f : α → D} {b : α → Bool} {xs : List α} : ((xs.filter fun x => !b x).map f).isEmpty = xs.all b := by
  rw [List.isEmpty_map, Bool.eq_iff_iff, List.isEmpty_iff, List.filter_eq_nil_iff, List.all_eq_true]
  exact ⟨fun h c hc => by simpa using h c hc, fun h c hc => by rw [h c hc]; decide⟩
section
variable {K : PySem.W.Frag} {wd : PySem.World}
def t_law_are_names (K : PySem.W.Frag) (wd : PySem.World) : TS := (tSeq (tIfS (tOr (tNot (tB (tCB (rIsi K) (tCons (tVar 0) (tCons (tC (.ty "tuple")) tNil))))) (tTest (tOp (rI0 fun i j => V.bl (decide (j < i))) (tCB (rLenA K) (tCons (tVar 0) tNil)) (tVar 1)))) (tRet (tC (.bl false))) tNext) (tSeq (tIfS (tTest (tOp (rNeN K) (tLc (iTup K (tVar 0)) (gName 2) (tNot (tB (tCall (spOf K R_law_is_name) [] E0 (tCons (tVar 2) tNil)))) (tVar 2) [2]) (tLst tNil))) (tRet (tC (.bl false))) tNext) (tRet (tOp (rEqD K) (tCB (rListA K) (tCons (tVar 0) tNil)) (tCB (rSortedA K wd) (tCons (tCB (rSetOfT K wd) (tCons (tVar 0) tNil)) tNil))))))
theorem go_law_are_names (ss : List SV) (g : List Cell) (post : D → List Cell → Prop) (h : R_law_are_names ss g post) : GoS K g.length (t_law_are_names K wd) (ss ++ List.replicate (3 - ss.length) .no) g (KF g.length post) := by
  obtain ⟨d, k, rfl, rfl, hk, sb, p⟩ := h
  unfold t_law_are_names
  have no : namesB d k = false → post (.bool false) [] := fun e => by rw [e] at p; exact p
  refine gs_seq (gs_if (gt_or (gt_not (gt_B (gd_isi (by simp) (gd_var rfl ⟨_, rfl, fun hb => ?_, fun hb => ⟨fun _ => gs_ret (gd_bl ⟨_, rfl, no ?_⟩), fun z => nomatch z⟩⟩))))))
  rotate_left
  · cases d with
    | tuple xs => exact absurd hb (by simp [isaD, isaN, tyN])
    | _ => rfl
  obtain ⟨xs, rfl⟩ := isa_tuple (d := d) (by simpa using hb)
  have hl := sbx_len sb
  refine gt_test (gd_op (gd_cb (r := rLenA K) (gs_cons (gd_var rfl (gs_nil (opd_lenT (gd_var rfl (opd_gt ⟨_, rfl, fun h0 => gs_ret (gd_bl ⟨_, rfl, no ?_⟩), fun h0 => gs_next ?_⟩))))))))
  · have h0 := of_decide_eq_true h0
    show (decide ((xs.length : Int) ≤ k) && _) = false
    rw [decide_eq_false (by omega)]
    rfl
  have h0 := of_decide_eq_false h0
  have e : namesB (.tuple xs) k = (xs.all nameB && risB xs) := by
    show (decide ((xs.length : Int) ≤ k) && _) = _
    rw [decide_eq_true (by omega), Bool.true_and]
  rw [e] at p no
  refine gs_seq (gs_if (gt_test (gd_op (gd_filT id id (fun x => !nameB x) mg_name (ij_name (by simp)) (gi_tup (gd_var rfl ⟨_, rfl, xs, (List.map_id xs).symm, by omega, fun i x hx => gg_name (gt_not (gt_B (gd_call (gs_cons (gd_var rfl (gs_nil ⟨x, rfl, rfl, sbx_str (sbx_tup sb x (List.mem_of_getElem? hx)), _, rfl, rfl, rfl, gd_var rfl ⟨rfl, rfl⟩⟩)))))), gd_lst (gs_nil ⟨by decide, opd_neN ⟨_, rfl, ?_⟩⟩)⟩))))))
  rw [fil_all]
  refine ⟨fun he => gs_ret (gd_bl ⟨_, rfl, no ?_⟩), fun he => gs_next ?_⟩
  · rw [not_tt he, Bool.false_and]
  rw [not_ff he, Bool.true_and] at p
  obtain ⟨ns, rfl, hn⟩ := names_strs (not_ff he)
  rw [List.length_map] at hl
  exact gs_ret (gd_upST hn (by omega) (gd_cb (r := rListA K) (gs_cons (gd_var rfl (gs_nil (opd_listE (.inr rfl) ⟨rfl, gd_var rfl ⟨rfl, _, rfl, p⟩⟩))))))
def t_law_is_house (K : PySem.W.Frag) (wd : PySem.World) : TS := (tSeq (tIfS (tOr (tNot (tB (tCB (rIsi K) (tCons (tVar 0) (tCons (tC (.ty "tuple")) tNil))))) (tTest (tOp (rNeD K) (tCB (rLenA K) (tCons (tVar 0) tNil)) (tC (.int 2))))) (tRet (tC (.bl false))) tNext) (tRet (tAndV (tCall (spOf K R_law_within) [] E0 (tCons (tOp (rIx K) (tVar 0) (tC (.int 0))) (tCons (tC (.int 1)) (tCons (tC (.int 4)) tNil)))) (tCall (spOf K R_law_are_names) [] E0 (tCons (tOp (rIx K) (tVar 0) (tC (.int 1))) (tCons (tC (.int 8)) tNil))))))
theorem go_law_is_house (ss : List SV) (g : List Cell) (post : D → List Cell → Prop) (h : R_law_is_house ss g post) : GoS K g.length (t_law_is_house K wd) (ss ++ List.replicate (1 - ss.length) .no) g (KF g.length post) := by
  obtain ⟨d, rfl, rfl, sb, p⟩ := h
  unfold t_law_is_house
  have no : houseB d = false → post (.bool false) [] := fun e => by rw [e] at p; exact p
  refine gs_seq (gs_if (gt_or (gt_not (gt_B (gd_isi (by simp) (gd_var rfl ⟨_, rfl, fun hb => ?_, fun hb => ⟨fun _ => gs_ret (gd_bl ⟨_, rfl, no ?_⟩), fun z => nomatch z⟩⟩))))))
  rotate_left
  · cases d with
    | tuple xs => exact absurd hb (by simp [isaD, isaN, tyN])
    | _ => rfl
  obtain ⟨xs, rfl⟩ := isa_tuple (d := d) (by simpa using hb)
  refine gt_test (gd_op (gd_cb (r := rLenA K) (gs_cons (gd_var rfl (gs_nil (opd_lenT (gd_int (opd_ne rfl rfl ⟨_, rfl, fun h0 => gs_ret (gd_bl ⟨_, rfl, no ?_⟩), fun h0 => gs_next ?_⟩))))))))
  · have e : PyData.eqv (.int (xs.length : Int)) (.int 2) = false := not_tt h0
    rw [eqvI] at e
    have := of_decide_eq_false e
    unfold houseB
    split
    · rename_i e2
      cases e2
      exact absurd rfl this
    · rfl
  have hl : xs.length = 2 := by
    have e : PyData.eqv (.int (xs.length : Int)) (.int 2) = true := not_ff h0
    rw [eqvI] at e
    have := of_decide_eq_true e
    omega
  obtain ⟨a, b, rfl⟩ : ∃ a b, xs = [a, b] := by
    match xs, hl with
    | [a, b], _ => exact ⟨a, b, rfl⟩
  have p : post (.bool (numB a 1 4 && namesB b 8)) [] := p
  refine gs_ret (gd_and (gd_call (gs_cons (gd_op (gd_var rfl (gd_int (opd_ixT (d := a) rfl (gs_cons (gd_int (gs_cons (gd_int (gs_nil ⟨a, 1, 4, rfl, rfl, _, rfl, fun h1 => ?_, fun h1 => ⟨_, rfl, ?_⟩⟩))))))))))))
  · rw [h1, Bool.true_and] at p
    exact gd_call (gs_cons (gd_op (gd_var rfl (gd_int (opd_ixT (d := b) rfl (gs_cons (gd_int (gs_nil ⟨b, 8, rfl, rfl, by decide, sbx_tup sb b (by simp), _, rfl, p⟩))))))))
  · rw [h1, Bool.false_and] at p
    exact p
def t_law_is_case (K : PySem.W.Frag) (wd : PySem.World) : TS := (tSeq (tIfS (tOr (tNot (tB (tCB (rIsi K) (tCons (tVar 1) (tCons (tC (.ty "tuple")) tNil))))) (tOr (tTest (tOp (rNeD K) (tCB (rLenA K) (tCons (tVar 1) tNil)) (tC (.int 6)))) (tNot (tB (tCall (spOf K R_law_is_name) [] E0 (tCons (tOp (rIx K) (tVar 1) (tC (.int 0))) tNil)))))) (tRet (tC (.bl false))) tNext) (tSeq (tIfS (tOr (tNot (tB (tCall (spOf K R_law_within) [] E0 (tCons (tOp (rIx K) (tVar 1) (tC (.int 1))) (tCons (tC (.int 1)) (tCons (tC (.int 200)) tNil)))))) (tNot (tB (tCall (spOf K R_law_within) [] E0 (tCons (tOp (rIx K) (tVar 1) (tC (.int 2))) (tCons (tOp (rIx K) (tVar 1) (tC (.int 1))) (tCons (tC (.int 400)) tNil))))))) (tRet (tC (.bl false))) tNext) (tSeq (tIfS (tOr (tNot (tB (tCall (spOf K R_law_are_names) [] E0 (tCons (tOp (rIx K) (tVar 1) (tC (.int 3))) (tCons (tC (.int 3)) tNil))))) (tTest (tOp (rNeN K) (tLc (iTup K (tOp (rIx K) (tVar 1) (tC (.int 3)))) (gName 3) (tTest (tOp (rIn K true) (tVar 3) (tOp (rIx K) (tVar 0) (tC (.int 1))))) (tVar 3) [3]) (tLst tNil)))) (tRet (tC (.bl false))) tNext) (tSeq (tIfS (tOr (tNot (tB (tCB (rIsi K) (tCons (tOp (rIx K) (tVar 1) (tC (.int 4))) (tCons (tC (.ty "tuple")) tNil))))) (tTest (tOp (rEqT0 K) (tOp (rIx K) (tVar 1) (tC (.int 4))) (tTup tNil)))) (tRet (tC (.bl false))) tNext) (tSeq (tIfS (tTest (tOp (rNeN K) (tLc (iTup K (tOp (rIx K) (tVar 1) (tC (.int 4)))) (gName 2) (tNot (tB (tCall (spOf K R_law_within) [] E0 (tCons (tVar 2) (tCons (tC (.int 0)) (tCons (tOp (rI0 fun i j => V.int (i - j)) (tOp (rIx K) (tVar 0) (tC (.int 0))) (tC (.int 1))) tNil)))))) (tVar 2) [2]) (tLst tNil))) (tRet (tC (.bl false))) tNext) (tRet (tAndV (tOp (rEqD K) (tCB (rListA K) (tCons (tOp (rIx K) (tVar 1) (tC (.int 4))) tNil)) (tCB (rSortedA K wd) (tCons (tCB (rSetOfT K wd) (tCons (tOp (rIx K) (tVar 1) (tC (.int 4))) tNil)) tNil))) (tCall (spOf K R_law_within) [] E0 (tCons (tOp (rIx K) (tVar 1) (tC (.int 5))) (tCons (tC (.int 0)) (tCons (tC (.int 600)) tNil)))))))))))
theorem case_F {h : Hs} {nm us lo tm pl fi : D} (e : nameB nm = false ∨ numB us 1 200 = false ∨ numB lo (unI us) 400 = false ∨ namesB tm 3 = false ∨ teamB h.ppl tm = false ∨ placesB h.rooms pl = false) : caseB h (.tuple [nm, us, lo, tm, pl, fi]) = false := by
  show ((nameB nm && numB fi 0 600) && (timesB us lo && (teamB h.ppl tm && placesB h.rooms pl))) = false
  rcases e with e | e | e | e | e | e
  · rw [e]; simp
  · unfold timesB; rw [e]; simp
  · unfold timesB; rw [e]; simp
  · unfold teamB; rw [e]; simp
  · rw [e]; simp
  · rw [e]; simp
theorem go_law_is_case (ss : List SV) (g : List Cell) (post : D → List Cell → Prop) (h : R_law_is_case ss g post) : GoS K g.length (t_law_is_case K wd) (ss ++ List.replicate (4 - ss.length) .no) g (KF g.length post) := by
  obtain ⟨h, d, rfl, rfl, sb, p⟩ := h
  unfold t_law_is_case
  have no : caseB h d = false → post (.bool false) [] := fun e => by rw [e] at p; exact p
  refine gs_seq (gs_if (gt_or (gt_not (gt_B (gd_isi (by simp) (gd_var rfl ⟨_, rfl, fun hb => ?_, fun hb => ⟨fun _ => gs_ret (gd_bl ⟨_, rfl, no ?_⟩), fun z => nomatch z⟩⟩))))))
  rotate_left
  · cases d with
    | tuple xs => exact absurd hb (by simp [isaD, isaN, tyN])
    | _ => rfl
  obtain ⟨xs, rfl⟩ := isa_tuple (d := d) (by simpa using hb)
  refine gt_or (gt_test (gd_op (gd_cb (r := rLenA K) (gs_cons (gd_var rfl (gs_nil (opd_lenT (gd_int (opd_ne rfl rfl ⟨_, rfl, fun h0 => ?_, fun h0 => ⟨fun _ => gs_ret (gd_bl ⟨_, rfl, no ?_⟩), fun z => nomatch z⟩⟩)))))))))
  rotate_left
  · have e : PyData.eqv (.int (xs.length : Int)) (.int 6) = false := not_tt h0
    rw [eqvI] at e
    have := of_decide_eq_false e
    unfold caseB
    split
    · rename_i e2
      cases e2
      exact absurd rfl this
    · rfl
  have hl : xs.length = 6 := by
    have e : PyData.eqv (.int (xs.length : Int)) (.int 6) = true := not_ff h0
    rw [eqvI] at e
    have := of_decide_eq_true e
    omega
  obtain ⟨nm, us, lo, tm, pl, fi, rfl⟩ : ∃ a b c e f k, xs = [a, b, c, e, f, k] := by
    match xs, hl with
    | [a, b, c, e, f, k], _ => exact ⟨a, b, c, e, f, k, rfl⟩
  have sbs := sbx_tup sb
  refine gt_not (gt_B (gd_call (gs_cons (gd_op (gd_var rfl (gd_int (opd_ixT (d := nm) rfl (gs_nil ⟨nm, rfl, rfl, sbx_str (sbs nm (by simp)), _, rfl, fun h1 => gs_ret (gd_bl ⟨_, rfl, no (case_F (.inl (not_tt h1)))⟩), fun h1 => gs_next ?_⟩))))))))
  have p : post (.bool ((nameB nm && numB fi 0 600) && (timesB us lo && (teamB h.ppl tm && placesB h.rooms pl)))) [] := p
  rw [not_ff h1, Bool.true_and] at p
  refine gs_seq (gs_if (gt_or (gt_not (gt_B (gd_call (gs_cons (gd_op (gd_var rfl (gd_int (opd_ixT (d := us) rfl (gs_cons (gd_int (gs_cons (gd_int (gs_nil ⟨us, 1, 200, rfl, rfl, _, rfl, fun h2 => ?_, fun h2 => ⟨fun _ => gs_ret (gd_bl ⟨_, rfl, no (case_F (.inr (.inl (not_tt h2))))⟩), fun z => nomatch z⟩⟩)))))))))))))))
  have h2 := not_ff h2
  obtain ⟨ui, rfl, _⟩ := num_int h2
  refine gt_not (gt_B (gd_call (gs_cons (gd_op (gd_var rfl (gd_int (opd_ixT (d := lo) rfl (gs_cons (gd_op (gd_var rfl (gd_int (opd_ixT (d := .int ui) rfl (gs_cons (gd_int (gs_nil ⟨lo, ui, 400, rfl, rfl, _, rfl, fun h3 => gs_ret (gd_bl ⟨_, rfl, no (case_F (.inr (.inr (.inl (not_tt h3)))))⟩), fun h3 => gs_next ?_⟩)))))))))))))))
  have h3 := not_ff h3
  have et : timesB (.int ui) lo = true := by
    show (numB (.int ui) 1 200 && numB lo ui 400) = true
    rw [h2, h3]
    rfl
  rw [et, Bool.true_and] at p
  refine gs_seq (gs_if (gt_or (gt_not (gt_B (gd_call (gs_cons (gd_op (gd_var rfl (gd_int (opd_ixT (d := tm) rfl (gs_cons (gd_int (gs_nil ⟨tm, 3, rfl, rfl, by decide, sbs tm (by simp), _, rfl, fun h4 => ?_, fun h4 => ⟨fun _ => gs_ret (gd_bl ⟨_, rfl, no (case_F (.inr (.inr (.inr (.inl (not_tt h4))))))⟩), fun z => nomatch z⟩⟩)))))))))))))
  have h4 := not_ff h4
  obtain ⟨ts, rfl⟩ : ∃ ts, tm = .tuple ts := by
    cases tm with
    | tuple ts => exact ⟨ts, rfl⟩
    | _ => cases h4
  have lt := sbx_len (sbs _ (show PyData.tuple ts ∈ _ by simp))
  have h4' : (decide ((ts.length : Int) ≤ 3) && (ts.all nameB && risB ts)) = true := h4
  rw [Bool.and_eq_true, Bool.and_eq_true] at h4'
  have fl : ∀ x ∈ ts, flatD x = true := fun x hx => by
    obtain ⟨y, rfl, _⟩ := name_str (List.all_eq_true.mp h4'.2.1 x hx)
    rfl
  refine gt_test (gd_op (gd_filT id id (fun x => !((h.ppl.map PyData.str).any fun y => PyData.eqv y x)) mg_name (ij_name (by simp)) (gi_tup (gd_op (gd_var rfl (gd_int (opd_ixT (d := .tuple ts) rfl ⟨_, rfl, ts, (List.map_id ts).symm, by omega, fun i x hx => gg_name ?_, gd_lst (gs_nil ⟨by decide, opd_neN ⟨_, rfl, ?_⟩⟩)⟩)))))))
  · exact gt_test (gd_op (gd_var rfl (gd_op (gd_var rfl (gd_int (opd_ixT (d := .tuple (h.ppl.map PyData.str)) rfl (opd_inT (fl x (List.mem_of_getElem? hx)) (by rw [List.all_map]; exact List.all_eq_true.mpr fun _ _ => rfl) ⟨_, rfl, rfl, rfl, gd_var rfl ⟨rfl, rfl⟩⟩)))))))
  rw [fil_all]
  have tb : teamB h.ppl (.tuple ts) = ts.all fun x => (h.ppl.map PyData.str).any fun y => PyData.eqv y x := by
    show (namesB (.tuple ts) 3 && _) = _
    rw [h4, Bool.true_and]
  refine ⟨fun he => gs_ret (gd_bl ⟨_, rfl, no (case_F (.inr (.inr (.inr (.inr (.inl ?_))))))⟩), fun he => gs_next ?_⟩
  · rw [tb]; exact not_tt he
  have h5 : teamB h.ppl (.tuple ts) = true := by rw [tb]; exact not_ff he
  rw [h5, Bool.true_and] at p
  refine gs_seq (gs_if (gt_or (gt_not (gt_B (gd_isi (by simp) (gd_op (gd_var rfl (gd_int (opd_ixT (d := pl) rfl ⟨_, rfl, fun hb => ?_, fun hb => ⟨fun _ => gs_ret (gd_bl ⟨_, rfl, no (case_F (.inr (.inr (.inr (.inr (.inr ?_))))))⟩), fun z => nomatch z⟩⟩)))))))))
  rotate_left
  · cases pl with
    | tuple xs => exact absurd hb (by simp [isaD, isaN, tyN])
    | _ => rfl
  obtain ⟨ps, rfl⟩ := isa_tuple (d := pl) (by simpa using hb)
  have lp := sbx_len (sbs _ (show PyData.tuple ps ∈ _ by simp))
  refine gt_test (gd_op (gd_op (gd_var rfl (gd_int (opd_ixT (d := .tuple ps) rfl (gd_tup (gs_nil ⟨by decide, opd_eqT0 ⟨_, rfl, fun he => gs_ret (gd_bl ⟨_, rfl, no (case_F (.inr (.inr (.inr (.inr (.inr ?_))))))⟩), fun he => gs_next ?_⟩⟩)))))))
  · show (!decide (ps.length = 0) && _) = false
    rw [List.isEmpty_iff] at he
    rw [he]
    rfl
  have e0 : ps.length ≠ 0 := fun z => by
    rw [List.length_eq_zero_iff] at z
    rw [z] at he
    cases he
  have e : placesB h.rooms (.tuple ps) = ((ps.all fun x => numB x 0 (h.rooms - 1)) && risB ps) := by
    show (!decide (ps.length = 0) && _) = _
    rw [decide_eq_false e0]
    rfl
  refine gs_seq (gs_if (gt_test (gd_op (gd_filT id id (fun x => !numB x 0 (h.rooms - 1)) mg_name (ij_name (by simp)) (gi_tup (gd_op (gd_var rfl (gd_int (opd_ixT (d := .tuple ps) rfl ⟨_, rfl, ps, (List.map_id ps).symm, by omega, fun i x hx => gg_name ?_, gd_lst (gs_nil ⟨by decide, opd_neN ⟨_, rfl, ?_⟩⟩)⟩)))))))))
  · exact gt_not (gt_B (gd_call (gs_cons (gd_var rfl (gs_cons (gd_int (gs_cons (gd_op (gd_op (gd_var rfl (gd_int (opd_ixT (d := .int h.rooms) rfl (gd_int (opd_sub (gs_nil ⟨x, 0, h.rooms - 1, rfl, rfl, _, rfl, rfl, rfl, gd_var rfl ⟨rfl, rfl⟩⟩)))))))))))))))
  rw [fil_all]
  refine ⟨fun he => gs_ret (gd_bl ⟨_, rfl, no (case_F (.inr (.inr (.inr (.inr (.inr ?_))))))⟩), fun he => gs_next ?_⟩
  · rw [e, not_tt he, Bool.false_and]
  rw [e, not_ff he, Bool.true_and] at p
  obtain ⟨ns, rfl⟩ := nums_ints (not_ff he)
  rw [List.length_map] at lp
  refine gs_ret (gd_and (gd_upIT (xs := ns) (by omega) (gd_cb (r := rListA K) (gs_cons (gd_op (gd_var rfl (gd_int (opd_ixT (d := .tuple (ns.map PyData.int)) rfl (gs_nil (opd_listE (.inr rfl) ⟨rfl, gd_op (gd_var rfl (gd_int (opd_ixT (d := .tuple (ns.map PyData.int)) rfl ⟨rfl, _, rfl, fun h7 => ?_, fun h7 => ⟨_, rfl, ?_⟩⟩)))⟩))))))))))
  · rw [h7, Bool.and_true] at p
    exact gd_call (gs_cons (gd_op (gd_var rfl (gd_int (opd_ixT (d := fi) rfl (gs_cons (gd_int (gs_cons (gd_int (gs_nil ⟨fi, 0, 600, rfl, rfl, _, rfl, p⟩))))))))))
  · rw [h7, Bool.and_false] at p
    exact p
def t_law_are_cases (K : PySem.W.Frag) (wd : PySem.World) : TS := (tSeq (tIfS (tOr (tNot (tB (tCB (rIsi K) (tCons (tVar 1) (tCons (tC (.ty "tuple")) tNil))))) (tTest (tOp (rI0 fun i j => V.bl (decide (j < i))) (tCB (rLenA K) (tCons (tVar 1) tNil)) (tC (.int 8))))) (tRet (tC (.bl false))) tNext) (tSeq (tIfS (tTest (tOp (rNeN K) (tLc (iTup K (tVar 1)) (gName 3) (tNot (tB (tCall (spOf K R_law_is_case) [] E0 (tCons (tVar 0) (tCons (tVar 3) tNil))))) (tVar 3) [3]) (tLst tNil))) (tRet (tC (.bl false))) tNext) (tSeq (tAsg (tLc (iTup K (tVar 1)) (gName 3) tYes (tOp (rIx K) (tVar 3) (tC (.int 0))) [3]) (gName 2)) (tRet (tOp (rEqD K) (tVar 2) (tCB (rSortedA K wd) (tCons (tCB (rSetOf K wd) (tCons (tVar 2) tNil)) tNil)))))))
theorem go_law_are_cases (ss : List SV) (g : List Cell) (post : D → List Cell → Prop) (h : R_law_are_cases ss g post) : GoS K g.length (t_law_are_cases K wd) (ss ++ List.replicate (4 - ss.length) .no) g (KF g.length post) := by
  obtain ⟨h, d, rfl, rfl, sb, p⟩ := h
  unfold t_law_are_cases
  have no : casesB h d = false → post (.bool false) [] := fun e => by rw [e] at p; exact p
  refine gs_seq (gs_if (gt_or (gt_not (gt_B (gd_isi (by simp) (gd_var rfl ⟨_, rfl, fun hb => ?_, fun hb => ⟨fun _ => gs_ret (gd_bl ⟨_, rfl, no ?_⟩), fun z => nomatch z⟩⟩))))))
  rotate_left
  · cases d with
    | tuple xs => exact absurd hb (by simp [isaD, isaN, tyN])
    | _ => rfl
  obtain ⟨xs, rfl⟩ := isa_tuple (d := d) (by simpa using hb)
  refine gt_test (gd_op (gd_cb (r := rLenA K) (gs_cons (gd_var rfl (gs_nil (opd_lenT (gd_int (opd_gt ⟨_, rfl, fun h0 => gs_ret (gd_bl ⟨_, rfl, no ?_⟩), fun h0 => gs_next ?_⟩))))))))
  · have h0 := of_decide_eq_true h0
    show (decide ((xs.length : Int) ≤ 8) && _) = false
    rw [decide_eq_false (by omega)]
    rfl
  have h0 := of_decide_eq_false h0
  have e : casesB h (.tuple xs) = (xs.all (caseB h) && risB (xs.map fstD)) := by
    show (decide ((xs.length : Int) ≤ 8) && _) = _
    rw [decide_eq_true (by omega), Bool.true_and]
  rw [e] at p no
  refine gs_seq (gs_if (gt_test (gd_op (gd_filT id id (fun x => !caseB h x) mg_name (ij_name (by simp)) (gi_tup (gd_var rfl ⟨_, rfl, xs, (List.map_id xs).symm, by omega, fun i x hx => gg_name (gt_not (gt_B (gd_call (gs_cons (gd_var rfl (gs_cons (gd_var rfl (gs_nil ⟨h, x, rfl, rfl, sbx_tup sb x (List.mem_of_getElem? hx), _, rfl, rfl, rfl, gd_var rfl ⟨rfl, rfl⟩⟩)))))))), gd_lst (gs_nil ⟨by decide, opd_neN ⟨_, rfl, ?_⟩⟩)⟩))))))
  rw [fil_all]
  refine ⟨fun he => gs_ret (gd_bl ⟨_, rfl, no ?_⟩), fun he => gs_next ?_⟩
  · rw [not_tt he, Bool.false_and]
  have ha := not_ff he
  rw [ha, Bool.true_and] at p
  obtain ⟨ns, e2, hn⟩ := cases_strs ha
  have ln : ns.length = xs.length := by
    have := congrArg List.length e2
    rw [List.length_map, List.length_map] at this
    exact this.symm
  refine gs_seq (gs_asgD (gd_mapT id fstD mg_name (ij_name (by simp)) (gi_tup (gd_var rfl ⟨_, rfl, xs, (List.map_id xs).symm, by omega, fun i x hx => gg_name ?_, ?_⟩))))
  · obtain ⟨y, ef, _, ys, rfl⟩ := case_of (List.all_eq_true.mp ha x (List.mem_of_getElem? hx))
    exact gd_op (gd_var rfl (gd_int (opd_ixT (d := .str y) (by show atI (PyData.str y :: ys) ((0 : Nat) : Int) = _; exact atI_nat rfl) ⟨rfl, rfl⟩)))
  · rw [e2] at p ⊢
    exact gs_ret (gd_upS hn (by omega) (gd_var rfl ⟨rfl, gd_var rfl ⟨rfl, _, rfl, p⟩⟩))
end
end Go
namespace Go
open PySem PySem.Spec PyProof.Rows L2 SetMix ZipE
open Evl (Ex)
local macro_rules | `(tactic| walk_at "g") => `(tactic| first
  | ((with_reducible refine gd_var (d := ?dd) ?hv ?_); (case hv => exact rfl))
  | ((with_reducible refine gd_ixScr (ns := ?ns) ?hv ?_); (case hv => exact rfl))
  | ((with_reducible refine gd_ixCel (j := ?jj) ?hv ?_); (case hv => exact rfl))
  | ((with_reducible refine gd_lenScr (ns := ?ns) ?hv ?_); (case hv => exact rfl))
  | with_reducible first
    | refine gs_seq ?_ | refine gs_next ?_ | refine gs_ret ?_ | refine gs_asgD ?_ | refine gs_if ?_
    | refine gt_test ?_ | refine gt_B ?_ | refine gt_and ?_ | refine gt_or ?_ | refine gt_not ?_ | refine gt_yes ?_
    | refine gd_int ?_ | refine gd_str ?_ | refine gd_bl ?_ | refine gd_non ?_
    | refine gd_op ?_ | refine gd_tup ?_ | refine gd_lst ?_
    | refine gd_cb (r := rLenA _) ?_ | refine gd_cb (r := rTupleA _) ?_ | refine gd_cb (r := rAbsA) ?_ | refine gd_cb (r := rMax2A) ?_ | refine gd_cb (r := rMin2A) ?_ | refine gd_cb (r := rIntA) ?_ | refine gd_cb (r := rAny _) ?_ | refine gd_cb (r := rAll _) ?_ | refine gd_cb (r := rDictP _) ?_ | refine gd_cb (r := rMax _) ?_ | refine gd_cb (r := rMin _) ?_
    | refine gs_cons ?_ | refine gs_nil ?_ | refine gd_dget ?_
    | refine gd_and ?_ | refine gd_or ?_ | refine gd_not ?_
    | refine opd_addI ?_ | refine opd_sub ?_ | refine opd_lt ?_ | refine opd_le ?_ | refine opd_gt ?_ | refine opd_ge ?_
    | refine opd_lenL ?_ | refine opd_lenT ?_ | refine opd_tupleL ?_ | refine opd_tupleT ?_ | refine opd_max2 ?_ | refine opd_min2 ?_ | refine opd_abs ?_ | refine opd_intB ?_
    | refine Exists.intro _ (And.intro rfl ?_))
theorem five_len : ∀ x ∈ five, x.length ≤ 100 := by unfold five; decide +kernel
theorem sb_cut {n q : Nat} {xs : List D} {lo hi : Option Int} (h : ∀ d ∈ xs, SB n q d) : ∀ d ∈ cutD xs lo hi, SB n q d := fun d hd => h d (mem_cutD hd)
theorem sb_app {n q : Nat} {xs ys : List D} (h : ∀ d ∈ xs, SB n q d) (k : ∀ d ∈ ys, SB n q d) : ∀ d ∈ xs ++ ys, SB n q d := fun d hd => by
  rcases List.mem_append.mp hd with e | e
  · exact h d e
  · exact k d e
theorem sb_strs {q : Nat} {xs : List Str} (hl : xs.length ≤ 100) (h : ∀ x ∈ xs, x.length ≤ 100) : SB 0 (q + 1) (.tuple (xs.map PyData.str)) :=
  .tup (by rw [List.length_map]; omega) fun d hd => by
    obtain ⟨x, hx, rfl⟩ := List.mem_map.mp hd
    have := h x hx
    exact .str (by omega)
theorem sb_ints {q : Nat} {xs : List Int} (hl : xs.length ≤ 100) (h : ∀ x ∈ xs, 0 ≤ x ∧ x < 10) : SB 0 (q + 1) (.tuple (xs.map PyData.int)) :=
  .tup (by rw [List.length_map]; omega) fun d hd => by
    obtain ⟨x, hx, rfl⟩ := List.mem_map.mp hd
    have := h x hx
    exact .int (by omega)
def itC (c : Cs) : List D := [.str c.nm, .int c.us, .int c.lo, .tuple (c.tm.map PyData.str), .tuple (c.pl.map PyData.int), .int c.fi]
theorem sb_itC {h : Hs} {c : Cs} (hH : GoodH h) (hC : GoodC h c) (hn : c.nm.length ≤ 100) : ∀ d ∈ itC c, SB 0 1 d := by
  have g1 := hC.u1
  have g2 := hC.u2
  have g3 := hC.l1
  have g4 := hC.l2
  have g5 := hC.f0
  have g6 := hC.f1
  have g7 := hC.tl
  have g8 := hC.pn
  have g9 := hH.r4
  exact sb_cons (.str (by omega)) (sb_cons (.int (by omega)) (sb_cons (.int (by omega)) (sb_cons (sb_strs (by omega) fun x hx => five_len x (hH.fv x (hC.tm x hx))) (sb_cons (sb_ints (by omega) fun x hx => by have := hC.pr x hx; omega) (sb_cons (.int (by omega)) sb_nil)))))
theorem sb_case {h : Hs} {c : Cs} (hH : GoodH h) (hC : GoodC h c) (hn : c.nm.length ≤ 100) : SB 0 2 (encC c) := .tup (by show 6 ≤ 100; decide) (sb_itC hH hC hn)
theorem sb_cases {h : Hs} {cs : List Cs} (hH : GoodH h) (hC : GoodCs h cs) : SB 0 3 (encCs cs) := .tup (by rw [List.length_map]; have := hC.l8; omega) fun d hd => by
  obtain ⟨c, hc, rfl⟩ := List.mem_map.mp hd
  exact sb_case hH (hC.al c hc) (eight_len _ (List.mem_of_mem_take (by rw [← hC.nm]; exact List.mem_map.mpr ⟨c, hc, rfl⟩)))
theorem sb_house {h : Hs} (hH : GoodH h) : SB 0 3 (encH h) := by
  have g1 := hH.r1
  have g2 := hH.r4
  have g3 := hH.ln
  exact .tup (by show 2 ≤ 100; decide) (sb_cons (.int (by omega)) (sb_cons (sb_strs (by omega) fun x hx => five_len x (hH.fv x hx)) sb_nil))
theorem sbx0 {q : Nat} {d : D} (h : SB 0 q d) : SBx d := ⟨0, q, by decide, h⟩
theorem sbx_cons {x : D} {xs : List D} (h : SBx x) (t : ∀ d ∈ xs, SBx d) : ∀ d ∈ x :: xs, SBx d := fun d hd => by
  rcases List.mem_cons.mp hd with e | e
  · rw [e]; exact h
  · exact t d e
def encW (c : Cs) (k : Nat) : D := .tuple ([sgn k] ++ cutD (itC c) (some 1) none)
def mid (c : Cs) (a b : D) : D := .tuple ((cutD (itC c) none (some 1) ++ [a, b]) ++ cutD (itC c) (some 3) none)
theorem sb_mid {h : Hs} {c : Cs} {a b : D} (hH : GoodH h) (hC : GoodC h c) (hn : c.nm.length ≤ 100) (ha : SB 0 1 a) (hb : SB 0 1 b) : SB 0 2 (mid c a b) := by
  have l1 := len_cutD (itC c) none (some 1)
  have l2 := len_cutD (itC c) (some 3) none
  have e : (itC c).length = 6 := rfl
  refine .tup ?_ (sb_app (sb_app (sb_cut (sb_itC hH hC hn)) (sb_cons ha (sb_cons hb sb_nil))) (sb_cut (sb_itC hH hC hn)))
  rw [List.length_append, List.length_append]
  show _ + 2 + _ ≤ _
  omega
def R_law01 : RSpec := fun ss g post => ∃ ns : List Int, ss = [.s ns] ∧ g = [] ∧ post (.bool true) []
section
variable {K : PySem.W.Frag} {wd : PySem.World}
theorem opd_mid {c : Cs} {a b : D} {post : D → Prop} (p : post (mid c a b)) : OpD K (un2 (rAddA K)) [.tuple (cutD (itC c) none (some 1) ++ [a, b]), .tuple (cutD (itC c) (some 3) none)] post := by
  refine opd_addT ?_ p
  have l1 := len_cutD (itC c) none (some 1)
  have l2 := len_cutD (itC c) (some 3) none
  have e : (itC c).length = 6 := rfl
  rw [List.length_append]
  show _ + 2 + _ ≤ _
  omega
theorem two_int {i j : Int} {d : D} (h : d ∈ [PyData.int i, .int j]) : ∃ s : Int, d = .int s ∧ (s = i ∨ s = j) := by
  have hd' : d = .int i ∨ d = .int j := by simpa using h
  rcases hd' with rfl | rfl
  · exact ⟨_, rfl, .inl rfl⟩
  · exact ⟨_, rfl, .inr rfl⟩
def t_law01 (K : PySem.W.Frag) (wd : PySem.World) : TS := (tSeq (tFor (iRng1 (tCons (tOp (rAddA K) (tC (.int 1)) (tCB rMin2A (tCons (tCB (rLenA K) (tCons (tVar 0) tNil)) (tCons (tC (.int 30)) tNil)))) tNil)) (gName 1) (tSeq (tAsg (tCall (spNew K R_law_bag) [] E0 (tCons (tVar 0) (tCons (tVar 1) tNil))) (gName 2)) (tSeq (tAsg (tCall (spOf K R_law_house) [] E0 (tCons (tVar 2) tNil)) (gName 3)) (tSeq (tAsg (tCall (spOf K R_law_cases) [] E0 (tCons (tVar 2) (tCons (tVar 3) (tCons (tC (.int 8)) tNil)))) (gName 4)) (tSeq (tAsg (tCall (spOf K R_law_case) [] E0 (tCons (tVar 2) (tCons (tVar 3) (tCons (tC (.str "zz")) tNil)))) (gName 5)) (tSeq (tAsg (tCB (rTupleA K) (tCons (tLc (iStr (tSl rSlS (tC (.str "abcdefghi")) tNoPart (tPart (tOp (rAddA K) (tC (.int 7)) (tCall (spOf K R_law_take) [] E0 (tCons (tVar 2) (tCons (tC (.int 3)) tNil))))))) (gName 14) tYes (tOp (rAddA K) (tTup (tCons (tVar 14) tNil)) (tSl (rSlA K) (tVar 5) (tPart (tC (.int 1))) tNoPart)) [14]) tNil)) (gName 6)) (tSeq (tAsg (tTup (tCons (tVar 5) (tCons (tOp (rAddA K) (tOp (rAddA K) (tSl (rSlA K) (tVar 5) tNoPart (tPart (tC (.int 1)))) (tTup (tCons (tC (.int 1)) (tCons (tC (.int 400)) tNil)))) (tSl (rSlA K) (tVar 5) (tPart (tC (.int 3))) tNoPart)) tNil))) (gName 7)) (tSeq (tAsg (tTup (tCons (tOp (rAddA K) (tOp (rAddA K) (tSl (rSlA K) (tVar 5) tNoPart (tPart (tC (.int 1)))) (tTup (tCons (tOp (rIx K) (tLst (tCons (tC (.int 200)) (tCons (tC (.int 201)) tNil))) (tCall (spOf K R_law_take) [] E0 (tCons (tVar 2) (tCons (tC (.int 2)) tNil)))) (tCons (tOp (rIx K) (tLst (tCons (tC (.int 400)) (tCons (tC (.int 401)) tNil))) (tCall (spOf K R_law_take) [] E0 (tCons (tVar 2) (tCons (tC (.int 2)) tNil)))) tNil)))) (tSl (rSlA K) (tVar 5) (tPart (tC (.int 3))) tNoPart)) tNil)) (gName 8)) (tSeq (tFor (iList K (tLst (tCons (tVar 6) (tCons (tVar 7) (tCons (tVar 8) (tCons (tCall (spOf K R_law_odd) [] E0 (tCons (tVar 2) tNil)) (tCons (tTup tNil) (tCons (tRevT K (tVar 4)) tNil)))))))) (gName 9) (tIfS (tOr (tTest (tOp (rNeD K) (tCall (spOf K Rare_cases) [] E0 (tCons (tVar 3) (tCons (tVar 9) tNil))) (tCall (spOf K R_law_are_cases) [] E0 (tCons (tVar 3) (tCons (tVar 9) tNil))))) (tTest (tOp (rNeD K) (tCall (spOf K Ris_house) [] E0 (tCons (tVar 9) tNil)) (tCall (spOf K R_law_is_house) [] E0 (tCons (tVar 9) tNil))))) (tRet (tC (.bl false))) tNext)) (tSeq (tPar 11 12 (tCons (tVar 3) (tCons (tVar 4) tNil))) (tFor (iRng1 (tCons (tC (.int 6)) tNil)) (gName 10) (tSeq (tAsg (tTup (tCons (tCall (spOf K Ris_house) [] E0 (tCons (tVar 11) tNil)) (tCons (tCall (spOf K Rare_cases) [] E0 (tCons (tVar 3) (tCons (tVar 12) tNil))) tNil))) (gName 13)) (tSeq (tIfS (tTest (tOp (rNeD K) (tVar 13) (tTup (tCons (tCall (spOf K R_law_is_house) [] E0 (tCons (tVar 11) tNil)) (tCons (tCall (spOf K R_law_are_cases) [] E0 (tCons (tVar 3) (tCons (tVar 12) tNil))) tNil))))) (tRet (tC (.bl false))) tNext) (tSeq (tIfS (tOr (tNot (tB (tCB (rIsi K) (tCons (tOp (rIx K) (tVar 13) (tC (.int 0))) (tCons (tC (.ty "bool")) tNil))))) (tNot (tB (tCB (rIsi K) (tCons (tOp (rIx K) (tVar 13) (tC (.int 1))) (tCons (tC (.ty "bool")) tNil)))))) (tRet (tC (.bl false))) tNext) (tPar 11 12 (tCons (tCall (spOf K (R_law_spoilt 30)) [] E0 (tCons (tVar 2) (tCons (tVar 11) tNil))) (tCons (tCall (spOf K (R_law_spoilt 30)) [] E0 (tCons (tVar 2) (tCons (tVar 12) tNil))) tNil))))))))))))))))) (tRet (tC (.bl true))))
theorem go_law01 (ss : List SV) (g : List Cell) (post : D → List Cell → Prop) (h : R_law01 ss g post) : GoS K g.length (t_law01 K wd) (ss ++ List.replicate (15 - ss.length) .no) g (KF g.length post) := by
  obtain ⟨ns, rfl, rfl, p⟩ := h
  unfold t_law01
  refine gs_seq (gs_for (gi_rng1 ?_))
  (repeat (walk_at "g"))
  have hle : (if (30 : Int) < (ns.length : Int) then 30 else (ns.length : Int)) ≤ 30 ∧ 0 ≤ (if (30 : Int) < (ns.length : Int) then 30 else (ns.length : Int)) := by split <;> omega
  refine ⟨by omega, by omega, ?_⟩
  refine ⟨fun i ρ g => ∃ x1 x2 x3 x4 x5 x6 x7 x8 x9 y0 y1 y2 y3 : SV, ρ = [.s ns, x1, x2, x3, x4, x5, x6, x7, x8, x9, y0, y1, y2, y3, .no] ∧ g = [], ⟨.no, .no, .no, .no, .no, .no, .no, .no, .no, .no, .no, .no, .no, rfl, rfl⟩, fun k d ρ' g' hi ⟨x1, x2, x3, x4, x5, x6, x7, x8, x9, y0, y1, y2, y3, e1, e2⟩ _ => ?_, fun ρ' g' ⟨x1, x2, x3, x4, x5, x6, x7, x8, x9, y0, y1, y2, y3, e1, e2⟩ _ => ?_⟩
  · subst e1 e2
    obtain ⟨rfl, lkk⟩ := rng_at hi
    refine gg_name (gs_seq (gs_asg (ge_callN (ga_cons (ge_var rfl (fun z => nomatch z) (ga_cons (ge_var rfl (fun z => nomatch z) (ga_nil ⟨noC2, ns, k, rfl, by omega, fun b hb => ?_⟩))))))))
    refine gs_seq (gs_asgD (gd_bag rfl (gs_nil ⟨b, rfl, b, rfl, rfl, hb, fun h b1 hH hb1 => ⟨b1, rfl, ?_⟩⟩)))
    refine gs_seq (gs_asgD (gd_bag rfl (gs_cons (gd_var rfl (gs_cons (gd_int (gs_nil ⟨b1, rfl, b1, h, 8, rfl, rfl, hb1, hH, by decide, fun cs b2 hC _ hb2 => ⟨b2, rfl, ?_⟩⟩)))))))
    refine gs_seq (gs_asgD (gd_bag rfl (gs_cons (gd_var rfl (gs_cons (gd_str (gs_nil ⟨b2, rfl, b2, h, "zz", rfl, rfl, hb2, hH, fun c b3 hc en hb3 => ⟨b3, rfl, ?_⟩⟩)))))))
    have lnz : c.nm.length ≤ 100 := by rw [en]; decide +kernel
    have sbi := sb_itC hH hc lnz
    -- wide
    refine gs_seq (gs_asgD (gd_cb (r := rTupleA K) (gs_cons (gd_mapT sgn (encW c) mg_name (ij_name (by simp)) (gi_str (gd_slS (gd_str ⟨_, rfl, by decide +kernel, go_none (go_some (gd_op (gd_int (gd_take rfl (gd_int ⟨3, b3, rfl, rfl, hb3, by decide, by decide, fun t b4 t0 t1 hb4 => opd_addI ⟨_, rfl, _, rfl, _, rfl, ?_, fun i a ha => gg_name ?_, gs_nil (opd_tupleL ?_)⟩⟩)))))⟩)))))))
    · have := cutS_length "abcdefghi" none (some (7 + t))
      have e : ("abcdefghi" : Str).length = 9 := by decide +kernel
      rw [Array.length_toList]
      show (L2.cutS "abcdefghi" none (some (7 + t))).length ≤ 50000
      omega
    · exact gd_op (gd_tup (gs_cons (gd_var rfl (gs_nil ⟨by show 1 ≤ 100000; decide, gd_slT (gd_var rfl ⟨itC c, rfl, go_some (gd_int ⟨1, rfl, go_none (opd_addT (by show 1 + _ ≤ 100000; have := len_cutD (itC c) (some 1) none; have e : (itC c).length = 6 := rfl; omega) ⟨rfl, rfl⟩)⟩)⟩)⟩))))
    have lw : ((L2.cutS "abcdefghi" none (some (7 + t))).cps.toList.map (encW c)).length ≤ 100 := by
      have := cutS_length "abcdefghi" none (some (7 + t))
      have e : ("abcdefghi" : Str).length = 9 := by decide +kernel
      rw [List.length_map, Array.length_toList]
      show (L2.cutS "abcdefghi" none (some (7 + t))).length ≤ 100
      omega
    have sw : SB 0 3 (.tuple ((L2.cutS "abcdefghi" none (some (7 + t))).cps.toList.map (encW c))) := .tup lw fun d hd => by
      obtain ⟨a, _, rfl⟩ := List.mem_map.mp hd
      refine .tup ?_ (sb_app (sb_cons (.str (by show 1 ≤ _; decide)) sb_nil) (sb_cut sbi))
      have := len_cutD (itC c) (some 1) none
      have e : (itC c).length = 6 := rfl
      rw [List.length_append]
      show 1 + _ ≤ _
      omega
    generalize PyData.tuple ((L2.cutS "abcdefghi" none (some (7 + t))).cps.toList.map (encW c)) = wide at sw ⊢
    -- twin
    refine gs_seq (gs_asgD (gd_tup (gs_cons (gd_var rfl (gs_cons (gd_op (gd_op (gd_slT (gd_var rfl ⟨itC c, rfl, go_none (go_some (gd_int ⟨1, rfl, gd_tup (gs_cons (gd_int (gs_cons (gd_int (gs_nil ⟨by decide, opd_addT (by have := len_cutD (itC c) none (some 1); have e : (itC c).length = 6 := rfl; show _ + 2 ≤ 100000; omega) (gd_slT (gd_var rfl ⟨itC c, rfl, go_some (gd_int ⟨3, rfl, go_none (opd_mid (gs_nil ⟨by simp, ?_⟩))⟩)⟩))⟩)))))⟩))⟩)))))))))
    -- ends_so
    refine gs_seq (gs_asgD (gd_tup (gs_cons (gd_op (gd_op (gd_slT (gd_var rfl ⟨itC c, rfl, go_none (go_some (gd_int ⟨1, rfl, gd_tup (gs_cons (gd_op (gd_lst (gs_cons (gd_int (gs_cons (gd_int (gs_nil ⟨by simp, gd_take rfl (gd_int ⟨2, b4, rfl, rfl, hb4, by decide, by decide, fun t1 b5 t10 t11 hb5 => opd_pick t10 (by show t1 < 2; exact t11) fun d1 hd1 => gs_cons (gd_op (gd_lst (gs_cons (gd_int (gs_cons (gd_int (gs_nil ⟨by simp, gd_take rfl (gd_int ⟨2, b5, rfl, rfl, hb5, by decide, by decide, fun t2 b6 t20 t21 hb6 => opd_pick t20 (by show t2 < 2; exact t21) fun d2 hd2 => gs_nil ⟨by simp, opd_addT (by have := len_cutD (itC c) none (some 1); have e : (itC c).length = 6 := rfl; show _ + 2 ≤ 100000; omega) (gd_slT (gd_var rfl ⟨itC c, rfl, go_some (gd_int ⟨3, rfl, go_none (opd_mid (gs_nil ⟨by simp, ?_⟩))⟩)⟩))⟩⟩)⟩)))))))⟩)⟩))))))))⟩))⟩)))))))
    obtain ⟨s1, rfl, es1⟩ := two_int hd1
    obtain ⟨s2, rfl, es2⟩ := two_int hd2
    have sm1 : SBx (.tuple [encC c, mid c (.int 1) (.int 400)]) := sbx0 (.tup (by show 2 ≤ 100; decide) (sb_cons (sb_case hH hc lnz) (sb_cons (sb_mid hH hc lnz (.int (by decide)) (.int (by decide))) sb_nil)))
    have sm2 : SBx (.tuple [mid c (.int s1) (.int s2)]) := sbx0 (.tup (by show 1 ≤ 100; decide) (sb_cons (sb_mid hH hc lnz (.int (by omega)) (.int (by omega))) sb_nil))
    have srev : SBx (.tuple (cs.map encC).reverse) := sbx0 (.tup (q := 2) (by rw [List.length_reverse, List.length_map]; have := hC.l8; omega) fun d hd => by
      have s3 := sb_cases hH hC
      cases s3 with
      | tup _ al => exact al d (List.mem_reverse.mp hd))
    refine gs_seq (gs_for (gi_list (gd_lst (gs_cons (gd_var rfl (gs_cons (gd_var rfl (gs_cons (gd_var rfl (gs_cons (gd_bag rfl (gs_nil ⟨b6, rfl, b6, rfl, rfl, hb6, fun od b7 hod hb7 => ⟨b7, rfl, gs_cons (gd_tup (gs_nil ⟨by decide, gs_cons (gd_revT (gd_var rfl ⟨_, rfl, gs_nil ⟨by simp, _, rfl, ?_⟩⟩))⟩))⟩⟩))))))))))))
    have all : ∀ d ∈ [wide, .tuple [encC c, mid c (.int 1) (.int 400)], .tuple [mid c (.int s1) (.int s2)], od, .tuple [], .tuple (cs.map encC).reverse], SBx d := by
      exact sbx_cons (sbx0 sw) (sbx_cons sm1 (sbx_cons sm2 (sbx_cons (sbx0 hod) (sbx_cons (sbx0 (.tup (q := 0) (by decide) fun _ z => nomatch z)) (sbx_cons srev fun _ z => nomatch z)))))
    refine ⟨fun i ρ g => ∃ (x9 y0 y1 y2 y3 : SV) (b : List D), ρ = [.s ns, .d (.int (k : Int)), .c 0, .d (encH h), .d (encCs cs), .d (encC c), .d wide, .d (.tuple [encC c, mid c (.int 1) (.int 400)]), .d (.tuple [mid c (.int s1) (.int s2)]), x9, y0, y1, y2, y3, .no] ∧ g = [some b] ∧ Bag b, ⟨_, _, _, _, _, b7, rfl, rfl, hb7⟩, fun i d ρ' g' hi ⟨x9, y0, y1, y2, y3, b, e1, e2, hb⟩ _ => ?_, fun ρ' g' ⟨x9, y0, y1, y2, y3, b, e1, e2, hb⟩ _ => ?_⟩
    · subst e1 e2
      have hd := all d (List.mem_of_getElem? hi)
      refine gg_name (gs_if (gt_or (gt_test (gd_op (gd_call (gs_cons (gd_var rfl (gs_cons (gd_var rfl (gs_nil ⟨h, d, rfl, rfl, hd, gd_call (gs_cons (gd_var rfl (gs_cons (gd_var rfl (gs_nil ⟨h, d, rfl, rfl, hd, opd_ne rfl rfl ⟨_, rfl, fun _ => ?_, fun z => absurd z ?_⟩⟩)))))⟩))))))))))
      · refine gt_test (gd_op (gd_call (gs_cons (gd_var rfl (gs_nil ⟨d, rfl, rfl, hd, gd_call (gs_cons (gd_var rfl (gs_nil ⟨d, rfl, rfl, hd, opd_ne rfl rfl ⟨_, rfl, fun z => absurd z ?_, fun _ => gs_next ⟨_, _, _, _, _, b, rfl, rfl, hb⟩⟩⟩)))⟩)))))
        cases houseB d <;> decide
      · cases casesB h d <;> decide
    subst e1 e2
    refine gs_seq (gs_par (gs_cons (gd_var rfl (gs_cons (gd_var rfl (gs_nil ⟨_, _, rfl, ?_⟩))))))
    refine gs_for (gi_rng1 (gs_cons (gd_int (gs_nil ⟨_, rfl, by decide, by decide, ?_⟩))))
    refine ⟨fun t ρ g => ∃ (x9 y0 y3 : SV) (d1 d2 : D) (b : List D), ρ = [.s ns, .d (.int (k : Int)), .c 0, .d (encH h), .d (encCs cs), .d (encC c), .d wide, .d (.tuple [encC c, mid c (.int 1) (.int 400)]), .d (.tuple [mid c (.int s1) (.int s2)]), x9, y0, .d d1, .d d2, y3, .no] ∧ g = [some b] ∧ Bag b ∧ SB t (3 + 3 * t) d1 ∧ SB t (3 + 3 * t) d2, ⟨_, _, _, _, _, b, rfl, rfl, hb, sb_house hH, sb_cases hH hC⟩, fun t d ρ' g' hi ⟨x9, y0, y3, d1, d2, b, e1, e2, hb, hd1, hd2⟩ _ => ?_, fun ρ' g' ⟨x9, y0, y3, d1, d2, b, e1, e2, hb, hd1, hd2⟩ _ => ?_⟩
    rotate_left
    · subst e1 e2
      exact ⟨_, _, _, _, _, _, _, _, _, _, _, _, _, rfl, rfl⟩
    subst e1 e2
    obtain ⟨rfl, lt6⟩ := rng_at hi
    have lt6 : t < 6 := lt6
    have bx1 : SBx d1 := ⟨t, _, by omega, hd1⟩
    have bx2 : SBx d2 := ⟨t, _, by omega, hd2⟩
    refine gg_name (gs_seq (gs_asgD (gd_tup (gs_cons (gd_call (gs_cons (gd_var rfl (gs_nil ⟨d1, rfl, rfl, bx1, gs_cons (gd_call (gs_cons (gd_var rfl (gs_cons (gd_var rfl (gs_nil ⟨h, d2, rfl, rfl, bx2, gs_nil ⟨by simp, ?_⟩⟩))))) )⟩))))))))
    refine gs_seq (gs_if (gt_test (gd_op (gd_var rfl (gd_tup (gs_cons (gd_call (gs_cons (gd_var rfl (gs_nil ⟨d1, rfl, rfl, bx1, gs_cons (gd_call (gs_cons (gd_var rfl (gs_cons (gd_var rfl (gs_nil ⟨h, d2, rfl, rfl, bx2, gs_nil ⟨by simp, opd_ne rfl rfl ⟨_, rfl, fun z => absurd z ?_, fun _ => gs_next ?_⟩⟩⟩))))) )⟩))))))))))
    · cases houseB d1 <;> cases casesB h d2 <;> decide
    refine gs_seq (gs_if (gt_or (gt_not (gt_B (gd_isi (by simp) (gd_op (gd_var rfl (gd_int (opd_ixT (d := .bool (houseB d1)) rfl ⟨_, rfl, fun _ => ?_, fun z => absurd z (by simp [isaD, isaN, tyN])⟩)))))))))
    refine gt_not (gt_B (gd_isi (by simp) (gd_op (gd_var rfl (gd_int (opd_ixT (d := .bool (casesB h d2)) rfl ⟨_, rfl, fun z => absurd z (by simp [isaD, isaN, tyN]), fun _ => gs_next ?_⟩))))))
    refine gs_par (gs_cons (gd_bag rfl (gs_cons (gd_var rfl (gs_nil ⟨b, rfl, b, t, 3 + 3 * t, d1, rfl, rfl, hb, by omega, (show 3 + 3 * t ≤ 29 by omega), hd1, fun d1' b' h1' hb' => ⟨b', rfl, gs_cons (gd_bag rfl (gs_cons (gd_var rfl (gs_nil ⟨b', rfl, b', t, 3 + 3 * t, d2, rfl, rfl, hb', by omega, (show 3 + 3 * t ≤ 29 by omega), hd2, fun d2' b'' h2' hb'' => ⟨b'', rfl, gs_nil ⟨_, _, rfl, ?_⟩⟩⟩))))⟩⟩)))))
    exact ⟨_, _, _, d1', d2', b'', rfl, rfl, hb'', h1', h2'⟩
  · subst e1 e2
    exact gs_ret (gd_bl ⟨_, rfl, p⟩)
end
end Go
namespace K01
open PySem PySem.Spec PyProof.Rows L2 SetMix ZipE Go
def topS (i : Nat) : Stmt := PySem.Challenge.pw_roomsday_k01_houses_and_cases_told.main.body.getD i (.Pass ⟨0, 0, 0, 0⟩)
abbrev s__law_bag : Stmt := topS 24
abbrev N__law_bag : List Str := ["script", "k", "cell"]
theorem sc__law_bag : FnScope N__law_bag ["script", "k"] (defScope s__law_bag) := ⟨rfl, rfl, rfl, by decide +kernel, rfl, by decide +kernel, by decide +kernel⟩
abbrev s__law_take : Stmt := topS 25
abbrev N__law_take : List Str := ["bag", "many", "found"]
theorem sc__law_take : FnScope N__law_take ["bag", "many"] (defScope s__law_take) := ⟨rfl, rfl, rfl, by decide +kernel, rfl, by decide +kernel, by decide +kernel⟩
abbrev s__law_of : Stmt := topS 26
abbrev N__law_of : List Str := ["bag", "some"]
theorem sc__law_of : FnScope N__law_of ["bag", "some"] (defScope s__law_of) := ⟨rfl, rfl, rfl, by decide +kernel, rfl, by decide +kernel, by decide +kernel⟩
abbrev s__law_house : Stmt := topS 35
abbrev N__law_house : List Str := ["bag", "people", "turn"]
theorem sc__law_house : FnScope N__law_house ["bag"] (defScope s__law_house) := ⟨rfl, rfl, rfl, by decide +kernel, rfl, by decide +kernel, by decide +kernel⟩
abbrev s__law_case : Stmt := topS 36
abbrev N__law_case : List Str := ["bag", "house", "name", "usual", "longest", "team", "places", "first", "turn"]
theorem sc__law_case : FnScope N__law_case ["bag", "house", "name"] (defScope s__law_case) := ⟨rfl, rfl, rfl, by decide +kernel, rfl, by decide +kernel, by decide +kernel⟩
abbrev s__law_cases : Stmt := topS 37
abbrev N__law_cases : List Str := ["bag", "house", "most", "names", "name"]
theorem sc__law_cases : FnScope N__law_cases ["bag", "house", "most"] (defScope s__law_cases) := ⟨rfl, rfl, rfl, by decide +kernel, rfl, by decide +kernel, by decide +kernel⟩
abbrev s__law_odd : Stmt := topS 30
abbrev N__law_odd : List Str := ["bag", "some"]
theorem sc__law_odd : FnScope N__law_odd ["bag"] (defScope s__law_odd) := ⟨rfl, rfl, rfl, by decide +kernel, rfl, by decide +kernel, by decide +kernel⟩
abbrev s_is_tuple : Stmt := topS 6
abbrev N_is_tuple : List Str := ["thing", "fewest", "most"]
theorem sc_is_tuple : FnScope N_is_tuple ["thing", "fewest", "most"] (defScope s_is_tuple) := ⟨rfl, rfl, rfl, by decide +kernel, rfl, by decide +kernel, by decide +kernel⟩
abbrev s_is_whole : Stmt := topS 3
abbrev N_is_whole : List Str := ["thing"]
theorem sc_is_whole : FnScope N_is_whole ["thing"] (defScope s_is_whole) := ⟨rfl, rfl, rfl, by decide +kernel, rfl, by decide +kernel, by decide +kernel⟩
abbrev s_is_number : Stmt := topS 4
abbrev N_is_number : List Str := ["thing", "low", "high"]
theorem sc_is_number : FnScope N_is_number ["thing", "low", "high"] (defScope s_is_number) := ⟨rfl, rfl, rfl, by decide +kernel, rfl, by decide +kernel, by decide +kernel⟩
abbrev s_is_rising : Stmt := topS 7
abbrev N_is_rising : List Str := ["things", "at"]
theorem sc_is_rising : FnScope N_is_rising ["things"] (defScope s_is_rising) := ⟨rfl, rfl, rfl, by decide +kernel, rfl, by decide +kernel, by decide +kernel⟩
abbrev s_is_name : Stmt := topS 5
abbrev N_is_name : List Str := ["thing", "sign"]
theorem sc_is_name : FnScope N_is_name ["thing"] (defScope s_is_name) := ⟨rfl, rfl, rfl, by decide +kernel, rfl, by decide +kernel, by decide +kernel⟩
abbrev s_are_names : Stmt := topS 22
abbrev N_are_names : List Str := ["thing", "most", "name"]
theorem sc_are_names : FnScope N_are_names ["thing", "most"] (defScope s_are_names) := ⟨rfl, rfl, rfl, by decide +kernel, rfl, by decide +kernel, by decide +kernel⟩
abbrev s_is_house : Stmt := topS 16
abbrev N_is_house : List Str := ["thing", "rooms", "people"]
theorem sc_is_house : FnScope N_is_house ["thing"] (defScope s_is_house) := ⟨rfl, rfl, rfl, by decide +kernel, rfl, by decide +kernel, by decide +kernel⟩
abbrev s_are_times : Stmt := topS 19
abbrev N_are_times : List Str := ["usual", "longest"]
theorem sc_are_times : FnScope N_are_times ["usual", "longest"] (defScope s_are_times) := ⟨rfl, rfl, rfl, by decide +kernel, rfl, by decide +kernel, by decide +kernel⟩
abbrev s_is_team : Stmt := topS 20
abbrev N_is_team : List Str := ["people", "thing", "name"]
theorem sc_is_team : FnScope N_is_team ["people", "thing"] (defScope s_is_team) := ⟨rfl, rfl, rfl, by decide +kernel, rfl, by decide +kernel, by decide +kernel⟩
abbrev s_are_places : Stmt := topS 21
abbrev N_are_places : List Str := ["rooms", "thing", "room"]
theorem sc_are_places : FnScope N_are_places ["rooms", "thing"] (defScope s_are_places) := ⟨rfl, rfl, rfl, by decide +kernel, rfl, by decide +kernel, by decide +kernel⟩
abbrev s_is_case : Stmt := topS 18
abbrev N_is_case : List Str := ["house", "thing", "rooms", "people", "name", "usual", "longest", "team", "places", "first"]
theorem sc_is_case : FnScope N_is_case ["house", "thing"] (defScope s_is_case) := ⟨rfl, rfl, rfl, by decide +kernel, rfl, by decide +kernel, by decide +kernel⟩
abbrev s_are_cases : Stmt := topS 17
abbrev N_are_cases : List Str := ["house", "thing", "case"]
theorem sc_are_cases : FnScope N_are_cases ["house", "thing"] (defScope s_are_cases) := ⟨rfl, rfl, rfl, by decide +kernel, rfl, by decide +kernel, by decide +kernel⟩
abbrev s__law_spoilt : Stmt := topS 29
abbrev N__law_spoilt : List Str := ["bag", "thing", "way", "rows", "at", "other"]
theorem sc__law_spoilt : FnScope N__law_spoilt ["bag", "thing"] (defScope s__law_spoilt) := ⟨rfl, rfl, rfl, by decide +kernel, rfl, by decide +kernel, by decide +kernel⟩
abbrev s__law_within : Stmt := topS 27
abbrev N__law_within : List Str := ["thing", "least", "most"]
theorem sc__law_within : FnScope N__law_within ["thing", "least", "most"] (defScope s__law_within) := ⟨rfl, rfl, rfl, by decide +kernel, rfl, by decide +kernel, by decide +kernel⟩
abbrev s__law_is_name : Stmt := topS 28
abbrev N__law_is_name : List Str := ["thing", "sign"]
theorem sc__law_is_name : FnScope N__law_is_name ["thing"] (defScope s__law_is_name) := ⟨rfl, rfl, rfl, by decide +kernel, rfl, by decide +kernel, by decide +kernel⟩
abbrev s__law_are_names : Stmt := topS 31
abbrev N__law_are_names : List Str := ["thing", "most", "one"]
theorem sc__law_are_names : FnScope N__law_are_names ["thing", "most"] (defScope s__law_are_names) := ⟨rfl, rfl, rfl, by decide +kernel, rfl, by decide +kernel, by decide +kernel⟩
abbrev s__law_is_case : Stmt := topS 33
abbrev N__law_is_case : List Str := ["house", "thing", "room", "one"]
theorem sc__law_is_case : FnScope N__law_is_case ["house", "thing"] (defScope s__law_is_case) := ⟨rfl, rfl, rfl, by decide +kernel, rfl, by decide +kernel, by decide +kernel⟩
abbrev s__law_are_cases : Stmt := topS 34
abbrev N__law_are_cases : List Str := ["house", "thing", "names", "one"]
theorem sc__law_are_cases : FnScope N__law_are_cases ["house", "thing"] (defScope s__law_are_cases) := ⟨rfl, rfl, rfl, by decide +kernel, rfl, by decide +kernel, by decide +kernel⟩
abbrev s__law_is_house : Stmt := topS 32
abbrev N__law_is_house : List Str := ["thing"]
theorem sc__law_is_house : FnScope N__law_is_house ["thing"] (defScope s__law_is_house) := ⟨rfl, rfl, rfl, by decide +kernel, rfl, by decide +kernel, by decide +kernel⟩
abbrev s_law : Stmt := topS 38
abbrev N_law : List Str := ["script", "k", "bag", "house", "cases", "case", "wide", "twin", "ends_so", "thing", "turn", "one", "two", "told", "name"]
theorem sc_law : FnScope N_law ["script"] (defScope s_law) := ⟨rfl, rfl, rfl, by decide +kernel, rfl, by decide +kernel, by decide +kernel⟩
structure Txt (K : PySem.W.Frag) (mg : Str → Option Value) where
  a__law_bag : Addr
  fd__law_bag : FuncData
  F__law_bag : Fun K "_law_bag" "_law_bag" s__law_bag a__law_bag fd__law_bag
  m__law_bag : mg "_law_bag" = some (.ref a__law_bag)
  b__law_bag : Binds K fd__law_bag ["script", "k"] []
  a__law_take : Addr
  fd__law_take : FuncData
  F__law_take : Fun K "_law_take" "_law_take" s__law_take a__law_take fd__law_take
  m__law_take : mg "_law_take" = some (.ref a__law_take)
  b__law_take : Binds K fd__law_take ["bag", "many"] []
  a__law_of : Addr
  fd__law_of : FuncData
  F__law_of : Fun K "_law_of" "_law_of" s__law_of a__law_of fd__law_of
  m__law_of : mg "_law_of" = some (.ref a__law_of)
  b__law_of : Binds K fd__law_of ["bag", "some"] []
  a__law_house : Addr
  fd__law_house : FuncData
  F__law_house : Fun K "_law_house" "_law_house" s__law_house a__law_house fd__law_house
  m__law_house : mg "_law_house" = some (.ref a__law_house)
  b__law_house : Binds K fd__law_house ["bag"] []
  a__law_case : Addr
  fd__law_case : FuncData
  F__law_case : Fun K "_law_case" "_law_case" s__law_case a__law_case fd__law_case
  m__law_case : mg "_law_case" = some (.ref a__law_case)
  b__law_case : Binds K fd__law_case ["bag", "house", "name"] []
  a__law_cases : Addr
  fd__law_cases : FuncData
  F__law_cases : Fun K "_law_cases" "_law_cases" s__law_cases a__law_cases fd__law_cases
  m__law_cases : mg "_law_cases" = some (.ref a__law_cases)
  b__law_cases : Binds K fd__law_cases ["bag", "house", "most"] []
  a__law_odd : Addr
  fd__law_odd : FuncData
  F__law_odd : Fun K "_law_odd" "_law_odd" s__law_odd a__law_odd fd__law_odd
  m__law_odd : mg "_law_odd" = some (.ref a__law_odd)
  b__law_odd : Binds K fd__law_odd ["bag"] []
  a_is_tuple : Addr
  fd_is_tuple : FuncData
  F_is_tuple : Fun K "is_tuple" "is_tuple" s_is_tuple a_is_tuple fd_is_tuple
  m_is_tuple : mg "is_tuple" = some (.ref a_is_tuple)
  b_is_tuple : Binds K fd_is_tuple ["thing", "fewest", "most"] []
  a_is_whole : Addr
  fd_is_whole : FuncData
  F_is_whole : Fun K "is_whole" "is_whole" s_is_whole a_is_whole fd_is_whole
  m_is_whole : mg "is_whole" = some (.ref a_is_whole)
  b_is_whole : Binds K fd_is_whole ["thing"] []
  a_is_number : Addr
  fd_is_number : FuncData
  F_is_number : Fun K "is_number" "is_number" s_is_number a_is_number fd_is_number
  m_is_number : mg "is_number" = some (.ref a_is_number)
  b_is_number : Binds K fd_is_number ["thing", "low", "high"] []
  a_is_rising : Addr
  fd_is_rising : FuncData
  F_is_rising : Fun K "is_rising" "is_rising" s_is_rising a_is_rising fd_is_rising
  m_is_rising : mg "is_rising" = some (.ref a_is_rising)
  b_is_rising : Binds K fd_is_rising ["things"] []
  a_is_name : Addr
  fd_is_name : FuncData
  F_is_name : Fun K "is_name" "is_name" s_is_name a_is_name fd_is_name
  m_is_name : mg "is_name" = some (.ref a_is_name)
  b_is_name : Binds K fd_is_name ["thing"] []
  a_are_names : Addr
  fd_are_names : FuncData
  F_are_names : Fun K "are_names" "are_names" s_are_names a_are_names fd_are_names
  m_are_names : mg "are_names" = some (.ref a_are_names)
  b_are_names : Binds K fd_are_names ["thing", "most"] []
  a_is_house : Addr
  fd_is_house : FuncData
  F_is_house : Fun K "is_house" "is_house" s_is_house a_is_house fd_is_house
  m_is_house : mg "is_house" = some (.ref a_is_house)
  b_is_house : Binds K fd_is_house ["thing"] []
  a_are_times : Addr
  fd_are_times : FuncData
  F_are_times : Fun K "are_times" "are_times" s_are_times a_are_times fd_are_times
  m_are_times : mg "are_times" = some (.ref a_are_times)
  b_are_times : Binds K fd_are_times ["usual", "longest"] []
  a_is_team : Addr
  fd_is_team : FuncData
  F_is_team : Fun K "is_team" "is_team" s_is_team a_is_team fd_is_team
  m_is_team : mg "is_team" = some (.ref a_is_team)
  b_is_team : Binds K fd_is_team ["people", "thing"] []
  a_are_places : Addr
  fd_are_places : FuncData
  F_are_places : Fun K "are_places" "are_places" s_are_places a_are_places fd_are_places
  m_are_places : mg "are_places" = some (.ref a_are_places)
  b_are_places : Binds K fd_are_places ["rooms", "thing"] []
  a_is_case : Addr
  fd_is_case : FuncData
  F_is_case : Fun K "is_case" "is_case" s_is_case a_is_case fd_is_case
  m_is_case : mg "is_case" = some (.ref a_is_case)
  b_is_case : Binds K fd_is_case ["house", "thing"] []
  a_are_cases : Addr
  fd_are_cases : FuncData
  F_are_cases : Fun K "are_cases" "are_cases" s_are_cases a_are_cases fd_are_cases
  m_are_cases : mg "are_cases" = some (.ref a_are_cases)
  b_are_cases : Binds K fd_are_cases ["house", "thing"] []
  a__law_spoilt : Addr
  fd__law_spoilt : FuncData
  F__law_spoilt : Fun K "_law_spoilt" "_law_spoilt" s__law_spoilt a__law_spoilt fd__law_spoilt
  m__law_spoilt : mg "_law_spoilt" = some (.ref a__law_spoilt)
  b__law_spoilt : Binds K fd__law_spoilt ["bag", "thing"] []
  a__law_within : Addr
  fd__law_within : FuncData
  F__law_within : Fun K "_law_within" "_law_within" s__law_within a__law_within fd__law_within
  m__law_within : mg "_law_within" = some (.ref a__law_within)
  b__law_within : Binds K fd__law_within ["thing", "least", "most"] []
  a__law_is_name : Addr
  fd__law_is_name : FuncData
  F__law_is_name : Fun K "_law_is_name" "_law_is_name" s__law_is_name a__law_is_name fd__law_is_name
  m__law_is_name : mg "_law_is_name" = some (.ref a__law_is_name)
  b__law_is_name : Binds K fd__law_is_name ["thing"] []
  a__law_are_names : Addr
  fd__law_are_names : FuncData
  F__law_are_names : Fun K "_law_are_names" "_law_are_names" s__law_are_names a__law_are_names fd__law_are_names
  m__law_are_names : mg "_law_are_names" = some (.ref a__law_are_names)
  b__law_are_names : Binds K fd__law_are_names ["thing", "most"] []
  a__law_is_case : Addr
  fd__law_is_case : FuncData
  F__law_is_case : Fun K "_law_is_case" "_law_is_case" s__law_is_case a__law_is_case fd__law_is_case
  m__law_is_case : mg "_law_is_case" = some (.ref a__law_is_case)
  b__law_is_case : Binds K fd__law_is_case ["house", "thing"] []
  a__law_are_cases : Addr
  fd__law_are_cases : FuncData
  F__law_are_cases : Fun K "_law_are_cases" "_law_are_cases" s__law_are_cases a__law_are_cases fd__law_are_cases
  m__law_are_cases : mg "_law_are_cases" = some (.ref a__law_are_cases)
  b__law_are_cases : Binds K fd__law_are_cases ["house", "thing"] []
  a__law_is_house : Addr
  fd__law_is_house : FuncData
  F__law_is_house : Fun K "_law_is_house" "_law_is_house" s__law_is_house a__law_is_house fd__law_is_house
  m__law_is_house : mg "_law_is_house" = some (.ref a__law_is_house)
  b__law_is_house : Binds K fd__law_is_house ["thing"] []
  a_law : Addr
  fd_law : FuncData
  F_law : Fun K "law" "law" s_law a_law fd_law
  m_law : mg "law" = some (.ref a_law)
  b_law : Binds K fd_law ["script"] []
  z_abs : mg "abs" = none
  z_all : mg "all" = none
  z_bool : mg "bool" = none
  z_int : mg "int" = none
  z_isinstance : mg "isinstance" = none
  z_len : mg "len" = none
  z_list : mg "list" = none
  z_min : mg "min" = none
  z_range : mg "range" = none
  z_set : mg "set" = none
  z_sorted : mg "sorted" = none
  z_str : mg "str" = none
  z_tuple : mg "tuple" = none
  k_LATEST_FIRST : Tok
  c_LATEST_FIRST : mg "LATEST_FIRST" = some (.int 600 k_LATEST_FIRST)
  k_LETTERS : Tok
  c_LETTERS : mg "LETTERS" = some (.str "abcdefghijklmnopqrstuvwxyz" k_LETTERS)
  k_LONGEST_AT_ALL : Tok
  c_LONGEST_AT_ALL : mg "LONGEST_AT_ALL" = some (.int 400 k_LONGEST_AT_ALL)
  k_LONGEST_NAME : Tok
  c_LONGEST_NAME : mg "LONGEST_NAME" = some (.int 8 k_LONGEST_NAME)
  k_LONGEST_USUAL : Tok
  c_LONGEST_USUAL : mg "LONGEST_USUAL" = some (.int 200 k_LONGEST_USUAL)
  k_MOST_CASES : Tok
  c_MOST_CASES : mg "MOST_CASES" = some (.int 8 k_MOST_CASES)
  k_MOST_IN_TEAM : Tok
  c_MOST_IN_TEAM : mg "MOST_IN_TEAM" = some (.int 3 k_MOST_IN_TEAM)
  k_MOST_PEOPLE : Tok
  c_MOST_PEOPLE : mg "MOST_PEOPLE" = some (.int 8 k_MOST_PEOPLE)
  k_MOST_ROOMS : Tok
  c_MOST_ROOMS : mg "MOST_ROOMS" = some (.int 4 k_MOST_ROOMS)
section
variable {P : Program} {w : PySem.World} {K : PySem.W.Frag} {mg : Str → Option Value} {base : Heap}
theorem ok__law_bag (T : Txt K mg) : FnOk P w K mg base CX0 1 T.a__law_bag T.fd__law_bag ["script", "k"] (spNew K R_law_bag) :=
  fn_goN (t := t_law_bag K w) T.F__law_bag sc__law_bag (fun ss post h => by first | (obtain ⟨_, rfl, _⟩ := h; rfl) | (obtain ⟨_, _, rfl, _⟩ := h; rfl) | (obtain ⟨_, _, _, rfl, _⟩ := h; rfl) | (obtain ⟨_, _, _, _, rfl, _⟩ := h; rfl) | (obtain ⟨_, _, _, _, _, rfl, _⟩ := h; rfl))
    (fun cdv A outer s H E hr => (pss_cons (ps_set (i := 2) sc__law_bag.nd rfl (by first | exact .inl rfl | exact .inr rfl) pe_int) (pss_cons (ps_if (pt_cmpR op_lt (pv 1) (pe_callB call_lenA (by rfl) T.z_len bt_len (pa_cons (pv 0) pa_nil)) (nomark _)) (pss_one (ps_set (i := 2) sc__law_bag.nd rfl (by first | exact .inl rfl | exact .inr rfl) (pe_callB call_absA (by rfl) T.z_abs bt_abs (pa_cons (pe_ix ix_seq (pv 0) (pv 1) (fun _ _ => rfl)) pa_nil)))) pss_nil) (pss_cons (ps_if (pt_cmpR op_lt (pv 2) (pe_op op_pow pe_int pe_int) (nomark _)) (pss_one (ps_ret (pe_lst (pa_cons pe_int (pa_cons (pe_op op_addA pe_int (pe_op op_mod (pe_op op_addA (pe_op op_mulW (pv 2) pe_int) (pe_op op_mulW pe_int (pv 1))) pe_int)) pa_nil))))) pss_nil) (pss_one (ps_ret (pe_lst (pa_cons (pv 2) (pa_cons (pe_op op_addA pe_int (pe_op op_mod (pe_op op_addA (pv 2) (pv 1)) pe_int)) pa_nil)))))))))
    go_law_bag
theorem ok__law_take (T : Txt K mg) : FnOk P w K mg base CX0 1 T.a__law_take T.fd__law_take ["bag", "many"] (spOf K R_law_take) :=
  fn_go (t := t_law_take K w) T.F__law_take sc__law_take (fun ss g post h => by first | (obtain ⟨_, rfl, _⟩ := h; rfl) | (obtain ⟨_, _, rfl, _⟩ := h; rfl) | (obtain ⟨_, _, _, rfl, _⟩ := h; rfl) | (obtain ⟨_, _, _, _, rfl, _⟩ := h; rfl) | (obtain ⟨_, _, _, _, _, rfl, _⟩ := h; rfl))
    (fun cdv A outer s H E hr => (pss_cons (ps_if (pt_cmpR op_gt (pe_ix ix_seq (pv 0) pe_int (fun _ _ => rfl)) pe_int (nomark _)) (pss_cons (ps_set (i := 2) sc__law_take.nd rfl (by first | exact .inl rfl | exact .inr rfl) (pe_op op_mod (pe_ix ix_seq (pv 0) pe_int (fun _ _ => rfl)) (pv 1))) (pss_cons (ps_asg (pe_op op_fdivW (pe_ix ix_seq (pv 0) pe_int (fun _ _ => rfl)) (pv 1)) (pg_sub (pv 0) pe_int set_list)) (pss_one (ps_ret (pv 2))))) pss_nil) (pss_cons (ps_asg (pe_op op_mod (pe_op op_mulW (pe_ix ix_seq (pv 0) pe_int (fun _ _ => rfl)) pe_int) pe_int) (pg_sub (pv 0) pe_int set_list)) (pss_one (ps_ret (pe_op op_mod (pe_op op_fdivW (pe_op op_mod (pe_op op_mulW (pe_ix ix_seq (pv 0) pe_int (fun _ _ => rfl)) (pe_ix ix_seq (pv 0) pe_int (fun _ _ => rfl))) pe_int) pe_int) (pv 1)))))))
    go_law_take
theorem ok__law_of (T : Txt K mg) : FnOk P w K mg base CX0 2 T.a__law_of T.fd__law_of ["bag", "some"] (spOf K R_law_of) :=
  fn_go (t := t_law_of K w) T.F__law_of sc__law_of (fun ss g post h => by first | (obtain ⟨_, rfl, _⟩ := h; rfl) | (obtain ⟨_, _, rfl, _⟩ := h; rfl) | (obtain ⟨_, _, _, rfl, _⟩ := h; rfl) | (obtain ⟨_, _, _, _, rfl, _⟩ := h; rfl) | (obtain ⟨_, _, _, _, _, rfl, _⟩ := h; rfl))
    (fun cdv A outer s H E hr => (pss_one (ps_ret (pe_ix ix_seq (pv 1) (pe_call (ok__law_take T) (hr.mono (by decide)) (by rfl) T.m__law_take T.F__law_take.kp T.b__law_take .nil pass0 (pa_cons (pv 0) (pa_cons (pe_callB call_lenA (by rfl) T.z_len bt_len (pa_cons (pv 1) pa_nil)) pa_nil))) (fun _ _ => rfl)))))
    go_law_of
theorem ok__law_house (T : Txt K mg) : FnOk P w K mg base CX0 3 T.a__law_house T.fd__law_house ["bag"] (spOf K R_law_house) :=
  fn_go (t := t_law_house K w) T.F__law_house sc__law_house (fun ss g post h => by first | (obtain ⟨_, rfl, _⟩ := h; rfl) | (obtain ⟨_, _, rfl, _⟩ := h; rfl) | (obtain ⟨_, _, _, rfl, _⟩ := h; rfl) | (obtain ⟨_, _, _, _, rfl, _⟩ := h; rfl) | (obtain ⟨_, _, _, _, _, rfl, _⟩ := h; rfl))
    (fun cdv A outer s H E hr => (pss_cons (ps_set (i := 1) sc__law_house.nd rfl (by first | exact .inl rfl | exact .inr rfl) (pe_callB (call_sortedA rfl hr.units) (by rfl) T.z_sorted bt_sorted (pa_cons (pe_callTy (cr_setOf rfl) (by rfl) T.z_set bt_set (pa_cons (pe_lc (own := [("turn", 2)]) (g := (gName 2)) (tt := tYes) rfl sc__law_house.nd (pi_range1 (by rfl) T.z_range (pa_cons (pe_call (ok__law_take T) (hr.mono (by decide)) (by rfl) T.m__law_take T.F__law_take.kp T.b__law_take .nil pass0 (pa_cons (pv 0) (pa_cons pe_int pa_nil))) pa_nil)) (blkOk_by (N := N__law_house) (sc := defScope s__law_house) (by decide +kernel)) (fun _ _ _ _ _ => (pg_name (i := 2) sc__law_house.nd rfl (by first | exact .inl rfl | exact .inr rfl))) (fun _ _ _ _ _ => pts_nil) (fun _ _ _ _ _ => (pe_call (ok__law_of T) (hr.mono (by decide)) (by rfl) T.m__law_of T.F__law_of.kp T.b__law_of .nil pass0 (pa_cons (pv 0) (pa_cons (pe_lst (pa_cons pe_str (pa_cons pe_str (pa_cons pe_str (pa_cons pe_str (pa_cons pe_str pa_nil)))))) pa_nil))))) pa_nil)) pa_nil))) (pss_one (ps_ret (pe_tup (pa_cons (pe_op op_addA pe_int (pe_call (ok__law_take T) (hr.mono (by decide)) (by rfl) T.m__law_take T.F__law_take.kp T.b__law_take .nil pass0 (pa_cons (pv 0) (pa_cons pe_int pa_nil)))) (pa_cons (pe_callTy call_tupleA (by rfl) T.z_tuple bt_tuple (pa_cons (pv 1) pa_nil)) pa_nil)))))))
    go_law_house
theorem ok__law_case (T : Txt K mg) : FnOk P w K mg base CX0 3 T.a__law_case T.fd__law_case ["bag", "house", "name"] (spOf K R_law_case) :=
  fn_go (t := t_law_case K w) T.F__law_case sc__law_case (fun ss g post h => by first | (obtain ⟨_, rfl, _⟩ := h; rfl) | (obtain ⟨_, _, rfl, _⟩ := h; rfl) | (obtain ⟨_, _, _, rfl, _⟩ := h; rfl) | (obtain ⟨_, _, _, _, rfl, _⟩ := h; rfl) | (obtain ⟨_, _, _, _, _, rfl, _⟩ := h; rfl))
    (fun cdv A outer s H E hr => (pss_cons (ps_set (i := 3) sc__law_case.nd rfl (by first | exact .inl rfl | exact .inr rfl) (pe_op op_addA pe_int (pe_call (ok__law_take T) (hr.mono (by decide)) (by rfl) T.m__law_take T.F__law_take.kp T.b__law_take .nil pass0 (pa_cons (pv 0) (pa_cons (pe_ix ix_seq (pe_lst (pa_cons pe_int (pa_cons pe_int (pa_cons pe_int pa_nil)))) (pe_call (ok__law_take T) (hr.mono (by decide)) (by rfl) T.m__law_take T.F__law_take.kp T.b__law_take .nil pass0 (pa_cons (pv 0) (pa_cons pe_int pa_nil))) (fun _ _ => rfl)) pa_nil))))) (pss_cons (ps_set (i := 4) sc__law_case.nd rfl (by first | exact .inl rfl | exact .inr rfl) (pe_op op_addA (pv 3) (pe_ix ix_seq (pe_lst (pa_cons pe_int (pa_cons (pe_call (ok__law_take T) (hr.mono (by decide)) (by rfl) T.m__law_take T.F__law_take.kp T.b__law_take .nil pass0 (pa_cons (pv 0) (pa_cons pe_int pa_nil))) (pa_cons (pe_call (ok__law_take T) (hr.mono (by decide)) (by rfl) T.m__law_take T.F__law_take.kp T.b__law_take .nil pass0 (pa_cons (pv 0) (pa_cons (pe_op op_addA (pe_op op_sub pe_int (pv 3)) pe_int) pa_nil))) pa_nil)))) (pe_call (ok__law_take T) (hr.mono (by decide)) (by rfl) T.m__law_take T.F__law_take.kp T.b__law_take .nil pass0 (pa_cons (pv 0) (pa_cons pe_int pa_nil))) (fun _ _ => rfl)))) (pss_cons (ps_set (i := 5) sc__law_case.nd rfl (by first | exact .inl rfl | exact .inr rfl) (pe_callB (call_sortedA rfl hr.units) (by rfl) T.z_sorted bt_sorted (pa_cons (pe_callTy (cr_setOf rfl) (by rfl) T.z_set bt_set (pa_cons (pe_lc (own := [("turn", 8)]) (g := (gName 8)) (tt := (tTest (tOp (rNeD K) (tOp (rIx K) (tVar 1) (tC (.int 1))) (tTup tNil)))) rfl sc__law_case.nd (pi_range1 (by rfl) T.z_range (pa_cons (pe_call (ok__law_take T) (hr.mono (by decide)) (by rfl) T.m__law_take T.F__law_take.kp T.b__law_take .nil pass0 (pa_cons (pv 0) (pa_cons pe_int pa_nil))) pa_nil)) (blkOk_by (N := N__law_case) (sc := defScope s__law_case) (by decide +kernel)) (fun _ _ _ _ _ => (pg_name (i := 8) sc__law_case.nd rfl (by first | exact .inl rfl | exact .inr rfl))) (fun _ _ _ _ _ => (pts_one (pt_cmpR (op_neD hr.units) (pe_ix ix_seq (pv 1) pe_int (fun _ _ => rfl)) (pe_tup pa_nil) (nomark _)))) (fun _ _ _ _ _ => (pe_call (ok__law_of T) (hr.mono (by decide)) (by rfl) T.m__law_of T.F__law_of.kp T.b__law_of .nil pass0 (pa_cons (pv 0) (pa_cons (pe_ix ix_seq (pv 1) pe_int (fun _ _ => rfl)) pa_nil))))) pa_nil)) pa_nil))) (pss_cons (ps_set (i := 6) sc__law_case.nd rfl (by first | exact .inl rfl | exact .inr rfl) (pe_callB (call_sortedA rfl hr.units) (by rfl) T.z_sorted bt_sorted (pa_cons (pe_callTy (cr_setOf rfl) (by rfl) T.z_set bt_set (pa_cons (pe_lc (own := [("turn", 8)]) (g := (gName 8)) (tt := tYes) rfl sc__law_case.nd (pi_range1 (by rfl) T.z_range (pa_cons (pe_op op_addA pe_int (pe_call (ok__law_take T) (hr.mono (by decide)) (by rfl) T.m__law_take T.F__law_take.kp T.b__law_take .nil pass0 (pa_cons (pv 0) (pa_cons pe_int pa_nil)))) pa_nil)) (blkOk_by (N := N__law_case) (sc := defScope s__law_case) (by decide +kernel)) (fun _ _ _ _ _ => (pg_name (i := 8) sc__law_case.nd rfl (by first | exact .inl rfl | exact .inr rfl))) (fun _ _ _ _ _ => pts_nil) (fun _ _ _ _ _ => (pe_call (ok__law_take T) (hr.mono (by decide)) (by rfl) T.m__law_take T.F__law_take.kp T.b__law_take .nil pass0 (pa_cons (pv 0) (pa_cons (pe_ix ix_seq (pv 1) pe_int (fun _ _ => rfl)) pa_nil))))) pa_nil)) pa_nil))) (pss_cons (ps_set (i := 7) sc__law_case.nd rfl (by first | exact .inl rfl | exact .inr rfl) (pe_ix ix_seq (pe_lst (pa_cons pe_int (pa_cons pe_int (pa_cons (pe_call (ok__law_take T) (hr.mono (by decide)) (by rfl) T.m__law_take T.F__law_take.kp T.b__law_take .nil pass0 (pa_cons (pv 0) (pa_cons pe_int pa_nil))) (pa_cons (pe_call (ok__law_take T) (hr.mono (by decide)) (by rfl) T.m__law_take T.F__law_take.kp T.b__law_take .nil pass0 (pa_cons (pv 0) (pa_cons pe_int pa_nil))) pa_nil))))) (pe_call (ok__law_take T) (hr.mono (by decide)) (by rfl) T.m__law_take T.F__law_take.kp T.b__law_take .nil pass0 (pa_cons (pv 0) (pa_cons pe_int pa_nil))) (fun _ _ => rfl))) (pss_one (ps_ret (pe_tup (pa_cons (pv 2) (pa_cons (pv 3) (pa_cons (pv 4) (pa_cons (pe_callTy call_tupleA (by rfl) T.z_tuple bt_tuple (pa_cons (pv 5) pa_nil)) (pa_cons (pe_callTy call_tupleA (by rfl) T.z_tuple bt_tuple (pa_cons (pv 6) pa_nil)) (pa_cons (pv 7) pa_nil)))))))))))))))
    go_law_case
theorem ok__law_cases (T : Txt K mg) : FnOk P w K mg base CX0 4 T.a__law_cases T.fd__law_cases ["bag", "house", "most"] (spOf K R_law_cases) :=
  fn_go (t := t_law_cases K w) T.F__law_cases sc__law_cases (fun ss g post h => by first | (obtain ⟨_, rfl, _⟩ := h; rfl) | (obtain ⟨_, _, rfl, _⟩ := h; rfl) | (obtain ⟨_, _, _, rfl, _⟩ := h; rfl) | (obtain ⟨_, _, _, _, rfl, _⟩ := h; rfl) | (obtain ⟨_, _, _, _, _, rfl, _⟩ := h; rfl))
    (fun cdv A outer s H E hr => (pss_cons (ps_set (i := 3) sc__law_cases.nd rfl (by first | exact .inl rfl | exact .inr rfl) (pe_slice sl_list (pe_lst (pa_cons pe_str (pa_cons pe_str (pa_cons pe_str (pa_cons pe_str (pa_cons pe_str (pa_cons pe_str (pa_cons pe_str (pa_cons pe_str pa_nil))))))))) po_none (po_some (pe_call (ok__law_take T) (hr.mono (by decide)) (by rfl) T.m__law_take T.F__law_take.kp T.b__law_take .nil pass0 (pa_cons (pv 0) (pa_cons (pe_op op_addA (pv 2) pe_int) pa_nil)))))) (pss_one (ps_ret (pe_callTy call_tupleA (by rfl) T.z_tuple bt_tuple (pa_cons (pe_lc (own := [("name", 4)]) (g := (gName 4)) (tt := tYes) rfl sc__law_cases.nd (pi_list (pv 3)) (blkOk_by (N := N__law_cases) (sc := defScope s__law_cases) (by decide +kernel)) (fun _ _ _ _ _ => (pg_name (i := 4) sc__law_cases.nd rfl (by first | exact .inl rfl | exact .inr rfl))) (fun _ _ _ _ _ => pts_nil) (fun _ _ _ _ _ => (pe_call (ok__law_case T) (hr.mono (by decide)) (by rfl) T.m__law_case T.F__law_case.kp T.b__law_case .nil pass0 (pa_cons (pv 0) (pa_cons (pv 1) (pa_cons (pv 4) pa_nil)))))) pa_nil))))))
    go_law_cases
theorem ok__law_odd (T : Txt K mg) : FnOk P w K mg base CX0 2 T.a__law_odd T.fd__law_odd ["bag"] (spOf K R_law_odd) :=
  fn_go (t := t_law_odd K w) T.F__law_odd sc__law_odd (fun ss g post h => by first | (obtain ⟨_, rfl, _⟩ := h; rfl) | (obtain ⟨_, _, rfl, _⟩ := h; rfl) | (obtain ⟨_, _, _, rfl, _⟩ := h; rfl) | (obtain ⟨_, _, _, _, rfl, _⟩ := h; rfl) | (obtain ⟨_, _, _, _, _, rfl, _⟩ := h; rfl))
    (fun cdv A outer s H E hr => (pss_cons (ps_set (i := 1) sc__law_odd.nd rfl (by first | exact .inl rfl | exact .inr rfl) (pe_lst (pa_cons pe_non (pa_cons pe_bl (pa_cons pe_bl (pa_cons pe_int (pa_cons pe_int (pa_cons (pe_un un_neg pe_int) (pa_cons pe_int (pa_cons (pe_op op_pow pe_int pe_int) (pa_cons pe_str (pa_cons pe_str (pa_cons pe_str (pa_cons pe_str (pa_cons (pe_tup pa_nil) (pa_cons (pe_lst pa_nil) (pa_cons (pe_tup (pa_cons pe_int (pa_cons pe_int pa_nil))) (pa_cons pe_str (pa_cons (pe_tup (pa_cons pe_non pa_nil)) pa_nil))))))))))))))))))) (pss_cons (ps_set (i := 1) sc__law_odd.nd rfl (by first | exact .inl rfl | exact .inr rfl) (pe_op op_addA (pv 1) (pe_lst (pa_cons (pe_tup (pa_cons pe_int (pa_cons (pe_tup pa_nil) pa_nil))) (pa_cons (pe_tup (pa_cons pe_int (pa_cons (pe_tup (pa_cons pe_str (pa_cons pe_str pa_nil))) pa_nil))) (pa_cons (pe_tup (pa_cons pe_int (pa_cons (pe_tup pa_nil) pa_nil))) (pa_cons (pe_lst (pa_cons pe_int (pa_cons (pe_tup pa_nil) pa_nil))) (pa_cons (pe_tup (pa_cons pe_int (pa_cons (pe_lst (pa_cons pe_str pa_nil)) pa_nil))) (pa_cons (pe_tup (pa_cons pe_bl (pa_cons (pe_tup pa_nil) pa_nil))) (pa_cons (pe_tup (pa_cons pe_int (pa_cons (pe_tup (pa_cons pe_str (pa_cons pe_str pa_nil))) pa_nil))) pa_nil)))))))))) (pss_cons (ps_set (i := 1) sc__law_odd.nd rfl (by first | exact .inl rfl | exact .inr rfl) (pe_op op_addA (pv 1) (pe_lst (pa_cons (pe_tup (pa_cons (pe_tup (pa_cons pe_str (pa_cons pe_int (pa_cons pe_int (pa_cons (pe_tup pa_nil) (pa_cons (pe_tup (pa_cons pe_int pa_nil)) (pa_cons pe_int pa_nil))))))) pa_nil)) (pa_cons (pe_lst (pa_cons (pe_tup (pa_cons pe_str (pa_cons pe_int (pa_cons pe_int (pa_cons (pe_tup pa_nil) (pa_cons (pe_tup (pa_cons pe_int pa_nil)) (pa_cons pe_int pa_nil))))))) pa_nil)) (pa_cons (pe_tup (pa_cons (pe_tup (pa_cons pe_int (pa_cons pe_str (pa_cons pe_int pa_nil)))) pa_nil)) (pa_cons (pe_lst (pa_cons (pe_tup (pa_cons pe_int (pa_cons pe_str (pa_cons pe_int pa_nil)))) pa_nil)) pa_nil))))))) (pss_one (ps_ret (pe_ix ix_seq (pv 1) (pe_call (ok__law_take T) (hr.mono (by decide)) (by rfl) T.m__law_take T.F__law_take.kp T.b__law_take .nil pass0 (pa_cons (pv 0) (pa_cons (pe_callB call_lenA (by rfl) T.z_len bt_len (pa_cons (pv 1) pa_nil)) pa_nil))) (fun _ _ => rfl))))))))
    go_law_odd
theorem ok_is_tuple (T : Txt K mg) : FnOk P w K mg base CX0 1 T.a_is_tuple T.fd_is_tuple ["thing", "fewest", "most"] (spOf K Ris_tuple) :=
  fn_go (t := tis_tuple K w) T.F_is_tuple sc_is_tuple (fun ss g post h => by first | (obtain ⟨_, rfl, _⟩ := h; rfl) | (obtain ⟨_, _, rfl, _⟩ := h; rfl) | (obtain ⟨_, _, _, rfl, _⟩ := h; rfl) | (obtain ⟨_, _, _, _, rfl, _⟩ := h; rfl) | (obtain ⟨_, _, _, _, _, rfl, _⟩ := h; rfl))
    (fun cdv A outer s H E hr => (pss_one (ps_ret (pe_and (pe_callB call_isi (by rfl) T.z_isinstance bt_isinstance (pa_cons (pv 0) (pa_cons (pe_bltn (v := .ty "tuple") (by rfl) T.z_tuple bt_tuple rfl) pa_nil))) (pe_one (pe_chain op_le op_le (pv 1) (pe_callB call_lenA (by rfl) T.z_len bt_len (pa_cons (pv 0) pa_nil)) (pv 2)))))))
    go_is_tuple
theorem ok_is_whole (T : Txt K mg) : FnOk P w K mg base CX0 1 T.a_is_whole T.fd_is_whole ["thing"] (spOf K Ris_whole) :=
  fn_go (t := tis_whole K w) T.F_is_whole sc_is_whole (fun ss g post h => by first | (obtain ⟨_, rfl, _⟩ := h; rfl) | (obtain ⟨_, _, rfl, _⟩ := h; rfl) | (obtain ⟨_, _, _, rfl, _⟩ := h; rfl) | (obtain ⟨_, _, _, _, rfl, _⟩ := h; rfl) | (obtain ⟨_, _, _, _, _, rfl, _⟩ := h; rfl))
    (fun cdv A outer s H E hr => (pss_one (ps_ret (pe_and (pe_callB call_isi (by rfl) T.z_isinstance bt_isinstance (pa_cons (pv 0) (pa_cons (pe_bltn (v := .ty "int") (by rfl) T.z_int bt_int rfl) pa_nil))) (pe_one (pe_not (pe_callB call_isi (by rfl) T.z_isinstance bt_isinstance (pa_cons (pv 0) (pa_cons (pe_bltn (v := .ty "bool") (by rfl) T.z_bool bt_bool rfl) pa_nil)))))))))
    go_is_whole
theorem ok_is_number (T : Txt K mg) : FnOk P w K mg base CX0 2 T.a_is_number T.fd_is_number ["thing", "low", "high"] (spOf K Ris_number) :=
  fn_go (t := tis_number K w) T.F_is_number sc_is_number (fun ss g post h => by first | (obtain ⟨_, rfl, _⟩ := h; rfl) | (obtain ⟨_, _, rfl, _⟩ := h; rfl) | (obtain ⟨_, _, _, rfl, _⟩ := h; rfl) | (obtain ⟨_, _, _, _, rfl, _⟩ := h; rfl) | (obtain ⟨_, _, _, _, _, rfl, _⟩ := h; rfl))
    (fun cdv A outer s H E hr => (pss_one (ps_ret (pe_and (pe_call (ok_is_whole T) (hr.mono (by decide)) (by rfl) T.m_is_whole T.F_is_whole.kp T.b_is_whole .nil pass0 (pa_cons (pv 0) pa_nil)) (pe_one (pe_chain op_le op_le (pv 1) (pv 0) (pv 2)))))))
    go_is_number
theorem ok_is_rising (T : Txt K mg) : FnOk P w K mg base CX0 1 T.a_is_rising T.fd_is_rising ["things"] (spOf K Ris_rising) :=
  fn_go (t := tis_rising K w) T.F_is_rising sc_is_rising (fun ss g post h => by first | (obtain ⟨_, rfl, _⟩ := h; rfl) | (obtain ⟨_, _, rfl, _⟩ := h; rfl) | (obtain ⟨_, _, _, rfl, _⟩ := h; rfl) | (obtain ⟨_, _, _, _, rfl, _⟩ := h; rfl) | (obtain ⟨_, _, _, _, _, rfl, _⟩ := h; rfl))
    (fun cdv A outer s H E hr => (pss_one (ps_ret (pe_callB (cr_all rfl) (by rfl) T.z_all bt_all (pa_cons (pe_lc (own := [("at", 1)]) (g := (gName 1)) (tt := tYes) rfl sc_is_rising.nd (pi_range1 (by rfl) T.z_range (pa_cons (pe_op op_sub (pe_callB call_lenA (by rfl) T.z_len bt_len (pa_cons (pv 0) pa_nil)) pe_int) pa_nil)) (blkOk_by (N := N_is_rising) (sc := defScope s_is_rising) (by decide +kernel)) (fun _ _ _ _ _ => (pg_name (i := 1) sc_is_rising.nd rfl (by first | exact .inl rfl | exact .inr rfl))) (fun _ _ _ _ _ => pts_nil) (fun _ _ _ _ _ => (pe_cmpR (op_ltD hr.units) (pe_ix ix_seq (pv 0) (pv 1) (fun _ _ => rfl)) (pe_ix ix_seq (pv 0) (pe_op op_addA (pv 1) pe_int) (fun _ _ => rfl)) (nomark _)))) pa_nil)))))
    go_is_rising
theorem ok_is_name (T : Txt K mg) : FnOk P w K mg base CX0 1 T.a_is_name T.fd_is_name ["thing"] (spOf K Ris_name) :=
  fn_go (t := tis_name K w) T.F_is_name sc_is_name (fun ss g post h => by first | (obtain ⟨_, rfl, _⟩ := h; rfl) | (obtain ⟨_, _, rfl, _⟩ := h; rfl) | (obtain ⟨_, _, _, rfl, _⟩ := h; rfl) | (obtain ⟨_, _, _, _, rfl, _⟩ := h; rfl) | (obtain ⟨_, _, _, _, _, rfl, _⟩ := h; rfl))
    (fun cdv A outer s H E hr => (pss_cons (ps_if (PW.pt (pw_or (pt_not (pt_val (pe_callB call_isi (by rfl) T.z_isinstance bt_isinstance (pa_cons (pv 0) (pa_cons (pe_bltn (v := .ty "str") (by rfl) T.z_str bt_str rfl) pa_nil))))) (pw_or1 (pt_not (pt_chain op_le op_le pe_int (pe_callB call_lenA (by rfl) T.z_len bt_len (pa_cons (pv 0) pa_nil)) (pe_glob (by rfl) T.c_LONGEST_NAME ⟨_, rfl⟩)))))) (pss_one (ps_ret pe_bl)) pss_nil) (pss_one (ps_ret (pe_callB (cr_all rfl) (by rfl) T.z_all bt_all (pa_cons (pe_lc (own := [("sign", 1)]) (g := (gName 1)) (tt := tYes) rfl sc_is_name.nd (pi_str (pv 0)) (blkOk_by (N := N_is_name) (sc := defScope s_is_name) (by decide +kernel)) (fun _ _ _ _ _ => (pg_name (i := 1) sc_is_name.nd rfl (by first | exact .inl rfl | exact .inr rfl))) (fun _ _ _ _ _ => pts_nil) (fun _ _ _ _ _ => (pe_cmpR op_in_sign0 (pv 1) (pe_glob (by rfl) T.c_LETTERS ⟨_, rfl⟩) rfl))) pa_nil))))))
    go_is_name
theorem ok_are_names (T : Txt K mg) : FnOk P w K mg base CX0 2 T.a_are_names T.fd_are_names ["thing", "most"] (spOf K Rare_names) :=
  fn_go (t := tare_names K w) T.F_are_names sc_are_names (fun ss g post h => by first | (obtain ⟨_, rfl, _⟩ := h; rfl) | (obtain ⟨_, _, rfl, _⟩ := h; rfl) | (obtain ⟨_, _, _, rfl, _⟩ := h; rfl) | (obtain ⟨_, _, _, _, rfl, _⟩ := h; rfl) | (obtain ⟨_, _, _, _, _, rfl, _⟩ := h; rfl))
    (fun cdv A outer s H E hr => (pss_cons (ps_if (pt_not (pt_val (pe_call (ok_is_tuple T) (hr.mono (by decide)) (by rfl) T.m_is_tuple T.F_is_tuple.kp T.b_is_tuple .nil pass0 (pa_cons (pv 0) (pa_cons pe_int (pa_cons (pv 1) pa_nil)))))) (pss_one (ps_ret pe_bl)) pss_nil) (pss_one (ps_ret (pe_and (pe_callB (cr_all rfl) (by rfl) T.z_all bt_all (pa_cons (pe_lc (own := [("name", 2)]) (g := (gName 2)) (tt := tYes) rfl sc_are_names.nd (pi_tup (pv 0)) (blkOk_by (N := N_are_names) (sc := defScope s_are_names) (by decide +kernel)) (fun _ _ _ _ _ => (pg_name (i := 2) sc_are_names.nd rfl (by first | exact .inl rfl | exact .inr rfl))) (fun _ _ _ _ _ => pts_nil) (fun _ _ _ _ _ => (pe_call (ok_is_name T) (hr.mono (by decide)) (by rfl) T.m_is_name T.F_is_name.kp T.b_is_name .nil pass0 (pa_cons (pv 2) pa_nil)))) pa_nil)) (pe_one (pe_call (ok_is_rising T) (hr.mono (by decide)) (by rfl) T.m_is_rising T.F_is_rising.kp T.b_is_rising .nil pass0 (pa_cons (pv 0) pa_nil))))))))
    go_are_names
theorem ok_is_house (T : Txt K mg) : FnOk P w K mg base CX0 3 T.a_is_house T.fd_is_house ["thing"] (spOf K Ris_house) :=
  fn_go (t := tis_house K w) T.F_is_house sc_is_house (fun ss g post h => by first | (obtain ⟨_, rfl, _⟩ := h; rfl) | (obtain ⟨_, _, rfl, _⟩ := h; rfl) | (obtain ⟨_, _, _, rfl, _⟩ := h; rfl) | (obtain ⟨_, _, _, _, rfl, _⟩ := h; rfl) | (obtain ⟨_, _, _, _, _, rfl, _⟩ := h; rfl))
    (fun cdv A outer s H E hr => (pss_cons (ps_if (pt_not (pt_val (pe_call (ok_is_tuple T) (hr.mono (by decide)) (by rfl) T.m_is_tuple T.F_is_tuple.kp T.b_is_tuple .nil pass0 (pa_cons (pv 0) (pa_cons pe_int (pa_cons pe_int pa_nil)))))) (pss_one (ps_ret pe_bl)) pss_nil) (pss_cons (ps_asg (pv 0) (pg_tup rfl (pgs_cons (pg_name (i := 1) sc_is_house.nd rfl (by first | exact .inl rfl | exact .inr rfl)) (pgs_cons (pg_name (i := 2) sc_is_house.nd rfl (by first | exact .inl rfl | exact .inr rfl)) pgs_nil)))) (pss_one (ps_ret (pe_and (pe_call (ok_is_number T) (hr.mono (by decide)) (by rfl) T.m_is_number T.F_is_number.kp T.b_is_number .nil pass0 (pa_cons (pv 1) (pa_cons pe_int (pa_cons (pe_glob (by rfl) T.c_MOST_ROOMS ⟨_, rfl⟩) pa_nil)))) (pe_one (pe_call (ok_are_names T) (hr.mono (by decide)) (by rfl) T.m_are_names T.F_are_names.kp T.b_are_names .nil pass0 (pa_cons (pv 2) (pa_cons (pe_glob (by rfl) T.c_MOST_PEOPLE ⟨_, rfl⟩) pa_nil))))))))))
    go_is_house
theorem ok_are_times (T : Txt K mg) : FnOk P w K mg base CX0 3 T.a_are_times T.fd_are_times ["usual", "longest"] (spOf K Rare_times) :=
  fn_go (t := tare_times K w) T.F_are_times sc_are_times (fun ss g post h => by first | (obtain ⟨_, rfl, _⟩ := h; rfl) | (obtain ⟨_, _, rfl, _⟩ := h; rfl) | (obtain ⟨_, _, _, rfl, _⟩ := h; rfl) | (obtain ⟨_, _, _, _, rfl, _⟩ := h; rfl) | (obtain ⟨_, _, _, _, _, rfl, _⟩ := h; rfl))
    (fun cdv A outer s H E hr => (pss_one (ps_ret (pe_and (pe_call (ok_is_number T) (hr.mono (by decide)) (by rfl) T.m_is_number T.F_is_number.kp T.b_is_number .nil pass0 (pa_cons (pv 0) (pa_cons pe_int (pa_cons (pe_glob (by rfl) T.c_LONGEST_USUAL ⟨_, rfl⟩) pa_nil)))) (pe_one (pe_call (ok_is_number T) (hr.mono (by decide)) (by rfl) T.m_is_number T.F_is_number.kp T.b_is_number .nil pass0 (pa_cons (pv 1) (pa_cons (pv 0) (pa_cons (pe_glob (by rfl) T.c_LONGEST_AT_ALL ⟨_, rfl⟩) pa_nil)))))))))
    go_are_times
theorem ok_is_team (T : Txt K mg) : FnOk P w K mg base CX0 3 T.a_is_team T.fd_is_team ["people", "thing"] (spOf K Ris_team) :=
  fn_go (t := tis_team K w) T.F_is_team sc_is_team (fun ss g post h => by first | (obtain ⟨_, rfl, _⟩ := h; rfl) | (obtain ⟨_, _, rfl, _⟩ := h; rfl) | (obtain ⟨_, _, _, rfl, _⟩ := h; rfl) | (obtain ⟨_, _, _, _, rfl, _⟩ := h; rfl) | (obtain ⟨_, _, _, _, _, rfl, _⟩ := h; rfl))
    (fun cdv A outer s H E hr => (pss_one (ps_ret (pe_and (pe_call (ok_are_names T) (hr.mono (by decide)) (by rfl) T.m_are_names T.F_are_names.kp T.b_are_names .nil pass0 (pa_cons (pv 1) (pa_cons (pe_glob (by rfl) T.c_MOST_IN_TEAM ⟨_, rfl⟩) pa_nil))) (pe_one (pe_callB (cr_all rfl) (by rfl) T.z_all bt_all (pa_cons (pe_lc (own := [("name", 2)]) (g := (gName 2)) (tt := tYes) rfl sc_is_team.nd (pi_tup (pv 1)) (blkOk_by (N := N_is_team) (sc := defScope s_is_team) (by decide +kernel)) (fun _ _ _ _ _ => (pg_name (i := 2) sc_is_team.nd rfl (by first | exact .inl rfl | exact .inr rfl))) (fun _ _ _ _ _ => pts_nil) (fun _ _ _ _ _ => (pe_cmpR op_in_seq (pv 2) (pv 0) rfl))) pa_nil)))))))
    go_is_team
theorem ok_are_places (T : Txt K mg) : FnOk P w K mg base CX0 3 T.a_are_places T.fd_are_places ["rooms", "thing"] (spOf K Rare_places) :=
  fn_go (t := tare_places K w) T.F_are_places sc_are_places (fun ss g post h => by first | (obtain ⟨_, rfl, _⟩ := h; rfl) | (obtain ⟨_, _, rfl, _⟩ := h; rfl) | (obtain ⟨_, _, _, rfl, _⟩ := h; rfl) | (obtain ⟨_, _, _, _, rfl, _⟩ := h; rfl) | (obtain ⟨_, _, _, _, _, rfl, _⟩ := h; rfl))
    (fun cdv A outer s H E hr => (pss_cons (ps_if (PW.pt (pw_or (pt_not (pt_val (pe_callB call_isi (by rfl) T.z_isinstance bt_isinstance (pa_cons (pv 1) (pa_cons (pe_bltn (v := .ty "tuple") (by rfl) T.z_tuple bt_tuple rfl) pa_nil))))) (pw_or1 (pt_cmpR (op_eqD hr.units) (pe_callB call_lenA (by rfl) T.z_len bt_len (pa_cons (pv 1) pa_nil)) pe_int (nomark _))))) (pss_one (ps_ret pe_bl)) pss_nil) (pss_cons (ps_if (pt_not (pt_val (pe_callB (cr_all rfl) (by rfl) T.z_all bt_all (pa_cons (pe_lc (own := [("room", 2)]) (g := (gName 2)) (tt := tYes) rfl sc_are_places.nd (pi_tup (pv 1)) (blkOk_by (N := N_are_places) (sc := defScope s_are_places) (by decide +kernel)) (fun _ _ _ _ _ => (pg_name (i := 2) sc_are_places.nd rfl (by first | exact .inl rfl | exact .inr rfl))) (fun _ _ _ _ _ => pts_nil) (fun _ _ _ _ _ => (pe_call (ok_is_number T) (hr.mono (by decide)) (by rfl) T.m_is_number T.F_is_number.kp T.b_is_number .nil pass0 (pa_cons (pv 2) (pa_cons pe_int (pa_cons (pe_op op_sub (pv 0) pe_int) pa_nil)))))) pa_nil)))) (pss_one (ps_ret pe_bl)) pss_nil) (pss_one (ps_ret (pe_call (ok_is_rising T) (hr.mono (by decide)) (by rfl) T.m_is_rising T.F_is_rising.kp T.b_is_rising .nil pass0 (pa_cons (pv 1) pa_nil)))))))
    go_are_places
theorem ok_is_case (T : Txt K mg) : FnOk P w K mg base CX0 4 T.a_is_case T.fd_is_case ["house", "thing"] (spOf K Ris_case) :=
  fn_go (t := tis_case K w) T.F_is_case sc_is_case (fun ss g post h => by first | (obtain ⟨_, rfl, _⟩ := h; rfl) | (obtain ⟨_, _, rfl, _⟩ := h; rfl) | (obtain ⟨_, _, _, rfl, _⟩ := h; rfl) | (obtain ⟨_, _, _, _, rfl, _⟩ := h; rfl) | (obtain ⟨_, _, _, _, _, rfl, _⟩ := h; rfl))
    (fun cdv A outer s H E hr => (pss_cons (ps_if (pt_not (pt_val (pe_call (ok_is_tuple T) (hr.mono (by decide)) (by rfl) T.m_is_tuple T.F_is_tuple.kp T.b_is_tuple .nil pass0 (pa_cons (pv 1) (pa_cons pe_int (pa_cons pe_int pa_nil)))))) (pss_one (ps_ret pe_bl)) pss_nil) (pss_cons (ps_asg (pv 0) (pg_tup rfl (pgs_cons (pg_name (i := 2) sc_is_case.nd rfl (by first | exact .inl rfl | exact .inr rfl)) (pgs_cons (pg_name (i := 3) sc_is_case.nd rfl (by first | exact .inl rfl | exact .inr rfl)) pgs_nil)))) (pss_cons (ps_asg (pv 1) (pg_tup rfl (pgs_cons (pg_name (i := 4) sc_is_case.nd rfl (by first | exact .inl rfl | exact .inr rfl)) (pgs_cons (pg_name (i := 5) sc_is_case.nd rfl (by first | exact .inl rfl | exact .inr rfl)) (pgs_cons (pg_name (i := 6) sc_is_case.nd rfl (by first | exact .inl rfl | exact .inr rfl)) (pgs_cons (pg_name (i := 7) sc_is_case.nd rfl (by first | exact .inl rfl | exact .inr rfl)) (pgs_cons (pg_name (i := 8) sc_is_case.nd rfl (by first | exact .inl rfl | exact .inr rfl)) (pgs_cons (pg_name (i := 9) sc_is_case.nd rfl (by first | exact .inl rfl | exact .inr rfl)) pgs_nil)))))))) (pss_cons (ps_if (PW.pt (pw_or (pt_not (pt_val (pe_call (ok_is_name T) (hr.mono (by decide)) (by rfl) T.m_is_name T.F_is_name.kp T.b_is_name .nil pass0 (pa_cons (pv 4) pa_nil)))) (pw_or1 (pt_not (pt_val (pe_call (ok_is_number T) (hr.mono (by decide)) (by rfl) T.m_is_number T.F_is_number.kp T.b_is_number .nil pass0 (pa_cons (pv 9) (pa_cons pe_int (pa_cons (pe_glob (by rfl) T.c_LATEST_FIRST ⟨_, rfl⟩) pa_nil))))))))) (pss_one (ps_ret pe_bl)) pss_nil) (pss_one (ps_ret (pe_and (pe_call (ok_are_times T) (hr.mono (by decide)) (by rfl) T.m_are_times T.F_are_times.kp T.b_are_times .nil pass0 (pa_cons (pv 5) (pa_cons (pv 6) pa_nil))) (pe_and (pe_call (ok_is_team T) (hr.mono (by decide)) (by rfl) T.m_is_team T.F_is_team.kp T.b_is_team .nil pass0 (pa_cons (pv 3) (pa_cons (pv 7) pa_nil))) (pe_one (pe_call (ok_are_places T) (hr.mono (by decide)) (by rfl) T.m_are_places T.F_are_places.kp T.b_are_places .nil pass0 (pa_cons (pv 2) (pa_cons (pv 8) pa_nil)))))))))))))
    go_is_case
theorem ok_are_cases (T : Txt K mg) : FnOk P w K mg base CX0 5 T.a_are_cases T.fd_are_cases ["house", "thing"] (spOf K Rare_cases) :=
  fn_go (t := tare_cases K w) T.F_are_cases sc_are_cases (fun ss g post h => by first | (obtain ⟨_, rfl, _⟩ := h; rfl) | (obtain ⟨_, _, rfl, _⟩ := h; rfl) | (obtain ⟨_, _, _, rfl, _⟩ := h; rfl) | (obtain ⟨_, _, _, _, rfl, _⟩ := h; rfl) | (obtain ⟨_, _, _, _, _, rfl, _⟩ := h; rfl))
    (fun cdv A outer s H E hr => (pss_cons (ps_if (pt_not (pt_val (pe_call (ok_is_tuple T) (hr.mono (by decide)) (by rfl) T.m_is_tuple T.F_is_tuple.kp T.b_is_tuple .nil pass0 (pa_cons (pv 1) (pa_cons pe_int (pa_cons (pe_glob (by rfl) T.c_MOST_CASES ⟨_, rfl⟩) pa_nil)))))) (pss_one (ps_ret pe_bl)) pss_nil) (pss_cons (ps_if (pt_not (pt_val (pe_callB (cr_all rfl) (by rfl) T.z_all bt_all (pa_cons (pe_lc (own := [("case", 2)]) (g := (gName 2)) (tt := tYes) rfl sc_are_cases.nd (pi_tup (pv 1)) (blkOk_by (N := N_are_cases) (sc := defScope s_are_cases) (by decide +kernel)) (fun _ _ _ _ _ => (pg_name (i := 2) sc_are_cases.nd rfl (by first | exact .inl rfl | exact .inr rfl))) (fun _ _ _ _ _ => pts_nil) (fun _ _ _ _ _ => (pe_call (ok_is_case T) (hr.mono (by decide)) (by rfl) T.m_is_case T.F_is_case.kp T.b_is_case .nil pass0 (pa_cons (pv 0) (pa_cons (pv 2) pa_nil))))) pa_nil)))) (pss_one (ps_ret pe_bl)) pss_nil) (pss_one (ps_ret (pe_call (ok_is_rising T) (hr.mono (by decide)) (by rfl) T.m_is_rising T.F_is_rising.kp T.b_is_rising .nil pass0 (pa_cons (pe_lc (own := [("case", 2)]) (g := (gName 2)) (tt := tYes) rfl sc_are_cases.nd (pi_tup (pv 1)) (blkOk_by (N := N_are_cases) (sc := defScope s_are_cases) (by decide +kernel)) (fun _ _ _ _ _ => (pg_name (i := 2) sc_are_cases.nd rfl (by first | exact .inl rfl | exact .inr rfl))) (fun _ _ _ _ _ => pts_nil) (fun _ _ _ _ _ => (pe_ix ix_seq (pv 2) pe_int (fun _ _ => rfl)))) pa_nil)))))))
    go_are_cases
theorem ok__law_spoilt (T : Txt K mg) : ∀ d : Nat, FnOk P w K mg base CX0 (d + 3) T.a__law_spoilt T.fd__law_spoilt ["bag", "thing"] (spOf K (R_law_spoilt d))
  | 0 => ⟨fun _ _ _ _ h => by (obtain ⟨_, _, _, _, _, _, _, _, z, _⟩ := h; exact z.elim), fun _ _ _ _ _ _ _ _ _ _ _ _ _ h => by (obtain ⟨_, _, _, _, _, _, _, _, z, _⟩ := h; exact z.elim)⟩
  | q + 1 => by
    have ih : FnOk P w K mg base CX0 (q + 3) T.a__law_spoilt T.fd__law_spoilt ["bag", "thing"] (spOf K (R_law_spoilt q)) := ok__law_spoilt T q
    exact fn_go (k := q + 1 + 2) (t := t_law_spoilt q K w) T.F__law_spoilt sc__law_spoilt (fun ss g post h => by first | (obtain ⟨_, rfl, _⟩ := h; rfl) | (obtain ⟨_, _, rfl, _⟩ := h; rfl) | (obtain ⟨_, _, _, rfl, _⟩ := h; rfl) | (obtain ⟨_, _, _, _, rfl, _⟩ := h; rfl) | (obtain ⟨_, _, _, _, _, rfl, _⟩ := h; rfl))
      (fun cdv A outer s H E hr => (pss_cons (ps_set (i := 2) sc__law_spoilt.nd rfl (by first | exact .inl rfl | exact .inr rfl) (pe_call (ok__law_take T) (hr.mono (by omega)) (by rfl) T.m__law_take T.F__law_take.kp T.b__law_take .nil pass0 (pa_cons (pv 0) (pa_cons pe_int pa_nil)))) (pss_cons (ps_if (PW.pt (pw_and (pt_val (pe_callB call_isiT (by rfl) T.z_isinstance bt_isinstance (pa_cons (pv 1) (pa_cons (pe_tup (pa_cons (pe_bltn (v := .ty "tuple") (by rfl) T.z_tuple bt_tuple rfl) (pa_cons (pe_bltn (v := .ty "list") (by rfl) T.z_list bt_list rfl) pa_nil))) pa_nil)))) (pw_and (pt_cmpR op_gt (pe_callB call_lenA (by rfl) T.z_len bt_len (pa_cons (pv 1) pa_nil)) pe_int (nomark _)) (pw_and1 (pt_cmpR op_gt (pv 2) pe_int (nomark _)))))) (pss_cons (ps_set (i := 3) sc__law_spoilt.nd rfl (by first | exact .inl rfl | exact .inr rfl) (pe_callTy call_listA (by rfl) T.z_list bt_list (pa_cons (pv 1) pa_nil))) (pss_cons (ps_set (i := 4) sc__law_spoilt.nd rfl (by first | exact .inl rfl | exact .inr rfl) (pe_call (ok__law_take T) (hr.mono (by omega)) (by rfl) T.m__law_take T.F__law_take.kp T.b__law_take .nil pass0 (pa_cons (pv 0) (pa_cons (pe_callB call_lenA (by rfl) T.z_len bt_len (pa_cons (pv 3) pa_nil)) pa_nil)))) (pss_cons (ps_if (pt_cmpR (op_eqD hr.units) (pv 2) pe_int (nomark _)) (pss_one (ps_set (i := 3) sc__law_spoilt.nd rfl (by first | exact .inl rfl | exact .inr rfl) (pe_op op_addB (pe_slice sl_list (pv 3) po_none (po_some (pv 4))) (pe_slice sl_list (pv 3) (po_some (pe_op op_addB (pv 4) pe_int)) po_none)))) (pss_one (ps_if (pt_cmpR (op_eqD hr.units) (pv 2) pe_int (nomark _)) (pss_one (ps_set (i := 3) sc__law_spoilt.nd rfl (by first | exact .inl rfl | exact .inr rfl) (pe_op op_addB (pe_slice sl_list (pv 3) po_none (po_some (pe_op op_addB (pv 4) pe_int))) (pe_slice sl_list (pv 3) (po_some (pv 4)) po_none)))) (pss_one (ps_if (pt_cmpR (op_eqD hr.units) (pv 2) pe_int (nomark _)) (pss_cons (ps_set (i := 5) sc__law_spoilt.nd rfl (by first | exact .inl rfl | exact .inr rfl) (pe_call (ok__law_take T) (hr.mono (by omega)) (by rfl) T.m__law_take T.F__law_take.kp T.b__law_take .nil pass0 (pa_cons (pv 0) (pa_cons (pe_callB call_lenA (by rfl) T.z_len bt_len (pa_cons (pv 3) pa_nil)) pa_nil)))) (pss_one (ps_asg (pe_tup (pa_cons (pe_ix ix_seq (pv 3) (pv 5) (fun _ _ => rfl)) (pa_cons (pe_ix ix_seq (pv 3) (pv 4) (fun _ _ => rfl)) pa_nil))) (pg_tup rfl (pgs_cons (pg_sub (pv 3) (pv 4) set_list) (pgs_cons (pg_sub (pv 3) (pv 5) set_list) pgs_nil)))))) (pss_one (ps_if (pt_cmpR (op_eqD hr.units) (pv 2) pe_int (nomark _)) (pss_one (ps_ret (pe_ifExp (pt_val (pe_callB call_isi (by rfl) T.z_isinstance bt_isinstance (pa_cons (pv 1) (pa_cons (pe_bltn (v := .ty "tuple") (by rfl) T.z_tuple bt_tuple rfl) pa_nil)))) (pv 3) (pe_callTy call_tupleA (by rfl) T.z_tuple bt_tuple (pa_cons (pv 3) pa_nil))))) (pss_one (ps_asg (pe_call ih (hr.mono (by omega)) (by rfl) T.m__law_spoilt T.F__law_spoilt.kp T.b__law_spoilt .nil pass0 (pa_cons (pv 0) (pa_cons (pe_ix ix_seq (pv 3) (pv 4) (fun _ _ => rfl)) pa_nil))) (pg_sub (pv 3) (pv 4) set_list)))))))))) (pss_one (ps_ret (pe_ifExp (pt_val (pe_callB call_isi (by rfl) T.z_isinstance bt_isinstance (pa_cons (pv 1) (pa_cons (pe_bltn (v := .ty "tuple") (by rfl) T.z_tuple bt_tuple rfl) pa_nil)))) (pe_callTy call_tupleA (by rfl) T.z_tuple bt_tuple (pa_cons (pv 3) pa_nil)) (pv 3))))))) pss_nil) (pss_cons (ps_if (PW.pt (pw_and (pt_val (pe_callB call_isi (by rfl) T.z_isinstance bt_isinstance (pa_cons (pv 1) (pa_cons (pe_bltn (v := .ty "str") (by rfl) T.z_str bt_str rfl) pa_nil)))) (pw_and1 (pt_cmpR op_gt (pv 2) pe_int (nomark _))))) (pss_one (ps_ret (pe_ix ix_seq (pe_lst (pa_cons (pe_op op_addB (pv 1) pe_str) (pa_cons (pe_slice sl_str (pv 1) po_none (po_some (pe_un un_neg pe_int))) (pa_cons (pe_op op_addB (pv 1) pe_str) (pa_cons (pe_upper (pv 1)) (pa_cons (pe_op op_addB (pv 1) (pv 1)) (pa_cons (pe_op op_addB pe_str (pv 1)) (pa_cons pe_str pa_nil)))))))) (pe_op op_subB (pv 2) pe_int) (fun _ _ => rfl)))) pss_nil) (pss_cons (ps_if (PW.pt (pw_and (pt_val (pe_callB call_isi (by rfl) T.z_isinstance bt_isinstance (pa_cons (pv 1) (pa_cons (pe_bltn (v := .ty "int") (by rfl) T.z_int bt_int rfl) pa_nil)))) (pw_and1 (pt_cmpR op_gt (pv 2) pe_int (nomark _))))) (pss_one (ps_ret (pe_ix ix_seq (pe_lst (pa_cons (pe_op op_addB (pv 1) pe_int) (pa_cons (pe_op op_subB (pv 1) pe_int) (pa_cons (pe_un un_negB (pv 1)) (pa_cons (pe_op op_addB (pv 1) pe_int) (pa_cons (pe_callTy call_strI (by rfl) T.z_str bt_str (pa_cons (pv 1) pa_nil)) (pa_cons (pe_op op_addB (pv 1) pe_int) (pa_cons (pe_tup (pa_cons (pv 1) pa_nil)) pa_nil)))))))) (pe_op op_subB (pv 2) pe_int) (fun _ _ => rfl)))) pss_nil) (pss_one (ps_ret (pe_call (ok__law_odd T) (hr.mono (by omega)) (by rfl) T.m__law_odd T.F__law_odd.kp T.b__law_odd .nil pass0 (pa_cons (pv 0) pa_nil)))))))))
      (go_law_spoilt q)
theorem ok__law_within (T : Txt K mg) : FnOk P w K mg base CX0 1 T.a__law_within T.fd__law_within ["thing", "least", "most"] (spOf K R_law_within) :=
  fn_go (t := t_law_within K w) T.F__law_within sc__law_within (fun ss g post h => by first | (obtain ⟨_, rfl, _⟩ := h; rfl) | (obtain ⟨_, _, rfl, _⟩ := h; rfl) | (obtain ⟨_, _, _, rfl, _⟩ := h; rfl) | (obtain ⟨_, _, _, _, rfl, _⟩ := h; rfl) | (obtain ⟨_, _, _, _, _, rfl, _⟩ := h; rfl))
    (fun cdv A outer s H E hr => (pss_one (ps_ret (pe_and (pe_callB call_isi (by rfl) T.z_isinstance bt_isinstance (pa_cons (pv 0) (pa_cons (pe_bltn (v := .ty "int") (by rfl) T.z_int bt_int rfl) pa_nil))) (pe_and (pe_not (pe_callB call_isi (by rfl) T.z_isinstance bt_isinstance (pa_cons (pv 0) (pa_cons (pe_bltn (v := .ty "bool") (by rfl) T.z_bool bt_bool rfl) pa_nil)))) (pe_one (pe_chain op_le op_le (pv 1) (pv 0) (pv 2))))))))
    go_law_within
theorem ok__law_is_name (T : Txt K mg) : FnOk P w K mg base CX0 1 T.a__law_is_name T.fd__law_is_name ["thing"] (spOf K R_law_is_name) :=
  fn_go (t := t_law_is_name K w) T.F__law_is_name sc__law_is_name (fun ss g post h => by first | (obtain ⟨_, rfl, _⟩ := h; rfl) | (obtain ⟨_, _, rfl, _⟩ := h; rfl) | (obtain ⟨_, _, _, rfl, _⟩ := h; rfl) | (obtain ⟨_, _, _, _, rfl, _⟩ := h; rfl) | (obtain ⟨_, _, _, _, _, rfl, _⟩ := h; rfl))
    (fun cdv A outer s H E hr => (pss_cons (ps_if (PW.pt (pw_or (pt_not (pt_val (pe_callB call_isi (by rfl) T.z_isinstance bt_isinstance (pa_cons (pv 0) (pa_cons (pe_bltn (v := .ty "str") (by rfl) T.z_str bt_str rfl) pa_nil))))) (pw_or1 (pt_not (pt_chain op_le op_le pe_int (pe_callB call_lenA (by rfl) T.z_len bt_len (pa_cons (pv 0) pa_nil)) pe_int))))) (pss_one (ps_ret pe_bl)) pss_nil) (pss_one (ps_ret (pe_cmpR (op_eqN hr.units) (pe_lc (own := [("sign", 1)]) (g := (gName 1)) (tt := (tTest (tOp rNotInSg (tVar 1) (tC (.str "abcdefghijklmnopqrstuvwxyz"))))) rfl sc__law_is_name.nd (pi_str (pv 0)) (blkOk_by (N := N__law_is_name) (sc := defScope s__law_is_name) (by decide +kernel)) (fun _ _ _ _ _ => (pg_name (i := 1) sc__law_is_name.nd rfl (by first | exact .inl rfl | exact .inr rfl))) (fun _ _ _ _ _ => (pts_one (pt_cmpR op_notIn_sign0 (pv 1) pe_str rfl))) (fun _ _ _ _ _ => (pv 1))) (pe_lst pa_nil) (nomark _))))))
    go_law_is_name
theorem ok__law_are_names (T : Txt K mg) : FnOk P w K mg base CX0 2 T.a__law_are_names T.fd__law_are_names ["thing", "most"] (spOf K R_law_are_names) :=
  fn_go (t := t_law_are_names K w) T.F__law_are_names sc__law_are_names (fun ss g post h => by first | (obtain ⟨_, rfl, _⟩ := h; rfl) | (obtain ⟨_, _, rfl, _⟩ := h; rfl) | (obtain ⟨_, _, _, rfl, _⟩ := h; rfl) | (obtain ⟨_, _, _, _, rfl, _⟩ := h; rfl) | (obtain ⟨_, _, _, _, _, rfl, _⟩ := h; rfl))
    (fun cdv A outer s H E hr => (pss_cons (ps_if (PW.pt (pw_or (pt_not (pt_val (pe_callB call_isi (by rfl) T.z_isinstance bt_isinstance (pa_cons (pv 0) (pa_cons (pe_bltn (v := .ty "tuple") (by rfl) T.z_tuple bt_tuple rfl) pa_nil))))) (pw_or1 (pt_cmpR op_gt (pe_callB call_lenA (by rfl) T.z_len bt_len (pa_cons (pv 0) pa_nil)) (pv 1) (nomark _))))) (pss_one (ps_ret pe_bl)) pss_nil) (pss_cons (ps_if (pt_cmpR (op_neN hr.units) (pe_lc (own := [("one", 2)]) (g := (gName 2)) (tt := (tNot (tB (tCall (spOf K R_law_is_name) [] E0 (tCons (tVar 2) tNil))))) rfl sc__law_are_names.nd (pi_tup (pv 0)) (blkOk_by (N := N__law_are_names) (sc := defScope s__law_are_names) (by decide +kernel)) (fun _ _ _ _ _ => (pg_name (i := 2) sc__law_are_names.nd rfl (by first | exact .inl rfl | exact .inr rfl))) (fun _ _ _ _ _ => (pts_one (pt_not (pt_val (pe_call (ok__law_is_name T) (hr.mono (by decide)) (by rfl) T.m__law_is_name T.F__law_is_name.kp T.b__law_is_name .nil pass0 (pa_cons (pv 2) pa_nil)))))) (fun _ _ _ _ _ => (pv 2))) (pe_lst pa_nil) (nomark _)) (pss_one (ps_ret pe_bl)) pss_nil) (pss_one (ps_ret (pe_cmpR (op_eqD hr.units) (pe_callTy call_listA (by rfl) T.z_list bt_list (pa_cons (pv 0) pa_nil)) (pe_callB (call_sortedA rfl hr.units) (by rfl) T.z_sorted bt_sorted (pa_cons (pe_callTy (cr_setOfT rfl) (by rfl) T.z_set bt_set (pa_cons (pv 0) pa_nil)) pa_nil)) (nomark _)))))))
    go_law_are_names
theorem ok__law_is_case (T : Txt K mg) : FnOk P w K mg base CX0 3 T.a__law_is_case T.fd__law_is_case ["house", "thing"] (spOf K R_law_is_case) :=
  fn_go (t := t_law_is_case K w) T.F__law_is_case sc__law_is_case (fun ss g post h => by first | (obtain ⟨_, rfl, _⟩ := h; rfl) | (obtain ⟨_, _, rfl, _⟩ := h; rfl) | (obtain ⟨_, _, _, rfl, _⟩ := h; rfl) | (obtain ⟨_, _, _, _, rfl, _⟩ := h; rfl) | (obtain ⟨_, _, _, _, _, rfl, _⟩ := h; rfl))
    (fun cdv A outer s H E hr => (pss_cons (ps_if (PW.pt (pw_or (pt_not (pt_val (pe_callB call_isi (by rfl) T.z_isinstance bt_isinstance (pa_cons (pv 1) (pa_cons (pe_bltn (v := .ty "tuple") (by rfl) T.z_tuple bt_tuple rfl) pa_nil))))) (pw_or (pt_cmpR (op_neD hr.units) (pe_callB call_lenA (by rfl) T.z_len bt_len (pa_cons (pv 1) pa_nil)) pe_int (nomark _)) (pw_or1 (pt_not (pt_val (pe_call (ok__law_is_name T) (hr.mono (by decide)) (by rfl) T.m__law_is_name T.F__law_is_name.kp T.b__law_is_name .nil pass0 (pa_cons (pe_ix ix_seq (pv 1) pe_int (fun _ _ => rfl)) pa_nil)))))))) (pss_one (ps_ret pe_bl)) pss_nil) (pss_cons (ps_if (PW.pt (pw_or (pt_not (pt_val (pe_call (ok__law_within T) (hr.mono (by decide)) (by rfl) T.m__law_within T.F__law_within.kp T.b__law_within .nil pass0 (pa_cons (pe_ix ix_seq (pv 1) pe_int (fun _ _ => rfl)) (pa_cons pe_int (pa_cons pe_int pa_nil)))))) (pw_or1 (pt_not (pt_val (pe_call (ok__law_within T) (hr.mono (by decide)) (by rfl) T.m__law_within T.F__law_within.kp T.b__law_within .nil pass0 (pa_cons (pe_ix ix_seq (pv 1) pe_int (fun _ _ => rfl)) (pa_cons (pe_ix ix_seq (pv 1) pe_int (fun _ _ => rfl)) (pa_cons pe_int pa_nil))))))))) (pss_one (ps_ret pe_bl)) pss_nil) (pss_cons (ps_if (PW.pt (pw_or (pt_not (pt_val (pe_call (ok__law_are_names T) (hr.mono (by decide)) (by rfl) T.m__law_are_names T.F__law_are_names.kp T.b__law_are_names .nil pass0 (pa_cons (pe_ix ix_seq (pv 1) pe_int (fun _ _ => rfl)) (pa_cons pe_int pa_nil))))) (pw_or1 (pt_cmpR (op_neN hr.units) (pe_lc (own := [("one", 3)]) (g := (gName 3)) (tt := (tTest (tOp (rIn K true) (tVar 3) (tOp (rIx K) (tVar 0) (tC (.int 1)))))) rfl sc__law_is_case.nd (pi_tup (pe_ix ix_seq (pv 1) pe_int (fun _ _ => rfl))) (blkOk_by (N := N__law_is_case) (sc := defScope s__law_is_case) (by decide +kernel)) (fun _ _ _ _ _ => (pg_name (i := 3) sc__law_is_case.nd rfl (by first | exact .inl rfl | exact .inr rfl))) (fun _ _ _ _ _ => (pts_one (pt_cmpR op_notIn_seq (pv 3) (pe_ix ix_seq (pv 0) pe_int (fun _ _ => rfl)) rfl))) (fun _ _ _ _ _ => (pv 3))) (pe_lst pa_nil) (nomark _))))) (pss_one (ps_ret pe_bl)) pss_nil) (pss_cons (ps_if (PW.pt (pw_or (pt_not (pt_val (pe_callB call_isi (by rfl) T.z_isinstance bt_isinstance (pa_cons (pe_ix ix_seq (pv 1) pe_int (fun _ _ => rfl)) (pa_cons (pe_bltn (v := .ty "tuple") (by rfl) T.z_tuple bt_tuple rfl) pa_nil))))) (pw_or1 (pt_cmpR (op_eqT0 (hu_of hr)) (pe_ix ix_seq (pv 1) pe_int (fun _ _ => rfl)) (pe_tup pa_nil) (nomark _))))) (pss_one (ps_ret pe_bl)) pss_nil) (pss_cons (ps_if (pt_cmpR (op_neN hr.units) (pe_lc (own := [("room", 2)]) (g := (gName 2)) (tt := (tNot (tB (tCall (spOf K R_law_within) [] E0 (tCons (tVar 2) (tCons (tC (.int 0)) (tCons (tOp (rI0 fun i j => V.int (i - j)) (tOp (rIx K) (tVar 0) (tC (.int 0))) (tC (.int 1))) tNil))))))) rfl sc__law_is_case.nd (pi_tup (pe_ix ix_seq (pv 1) pe_int (fun _ _ => rfl))) (blkOk_by (N := N__law_is_case) (sc := defScope s__law_is_case) (by decide +kernel)) (fun _ _ _ _ _ => (pg_name (i := 2) sc__law_is_case.nd rfl (by first | exact .inl rfl | exact .inr rfl))) (fun _ _ _ _ _ => (pts_one (pt_not (pt_val (pe_call (ok__law_within T) (hr.mono (by decide)) (by rfl) T.m__law_within T.F__law_within.kp T.b__law_within .nil pass0 (pa_cons (pv 2) (pa_cons pe_int (pa_cons (pe_op op_sub (pe_ix ix_seq (pv 0) pe_int (fun _ _ => rfl)) pe_int) pa_nil)))))))) (fun _ _ _ _ _ => (pv 2))) (pe_lst pa_nil) (nomark _)) (pss_one (ps_ret pe_bl)) pss_nil) (pss_one (ps_ret (pe_and (pe_cmpR (op_eqD hr.units) (pe_callTy call_listA (by rfl) T.z_list bt_list (pa_cons (pe_ix ix_seq (pv 1) pe_int (fun _ _ => rfl)) pa_nil)) (pe_callB (call_sortedA rfl hr.units) (by rfl) T.z_sorted bt_sorted (pa_cons (pe_callTy (cr_setOfT rfl) (by rfl) T.z_set bt_set (pa_cons (pe_ix ix_seq (pv 1) pe_int (fun _ _ => rfl)) pa_nil)) pa_nil)) (nomark _)) (pe_one (pe_call (ok__law_within T) (hr.mono (by decide)) (by rfl) T.m__law_within T.F__law_within.kp T.b__law_within .nil pass0 (pa_cons (pe_ix ix_seq (pv 1) pe_int (fun _ _ => rfl)) (pa_cons pe_int (pa_cons pe_int pa_nil))))))))))))))
    go_law_is_case
theorem ok__law_are_cases (T : Txt K mg) : FnOk P w K mg base CX0 4 T.a__law_are_cases T.fd__law_are_cases ["house", "thing"] (spOf K R_law_are_cases) :=
  fn_go (t := t_law_are_cases K w) T.F__law_are_cases sc__law_are_cases (fun ss g post h => by first | (obtain ⟨_, rfl, _⟩ := h; rfl) | (obtain ⟨_, _, rfl, _⟩ := h; rfl) | (obtain ⟨_, _, _, rfl, _⟩ := h; rfl) | (obtain ⟨_, _, _, _, rfl, _⟩ := h; rfl) | (obtain ⟨_, _, _, _, _, rfl, _⟩ := h; rfl))
    (fun cdv A outer s H E hr => (pss_cons (ps_if (PW.pt (pw_or (pt_not (pt_val (pe_callB call_isi (by rfl) T.z_isinstance bt_isinstance (pa_cons (pv 1) (pa_cons (pe_bltn (v := .ty "tuple") (by rfl) T.z_tuple bt_tuple rfl) pa_nil))))) (pw_or1 (pt_cmpR op_gt (pe_callB call_lenA (by rfl) T.z_len bt_len (pa_cons (pv 1) pa_nil)) pe_int (nomark _))))) (pss_one (ps_ret pe_bl)) pss_nil) (pss_cons (ps_if (pt_cmpR (op_neN hr.units) (pe_lc (own := [("one", 3)]) (g := (gName 3)) (tt := (tNot (tB (tCall (spOf K R_law_is_case) [] E0 (tCons (tVar 0) (tCons (tVar 3) tNil)))))) rfl sc__law_are_cases.nd (pi_tup (pv 1)) (blkOk_by (N := N__law_are_cases) (sc := defScope s__law_are_cases) (by decide +kernel)) (fun _ _ _ _ _ => (pg_name (i := 3) sc__law_are_cases.nd rfl (by first | exact .inl rfl | exact .inr rfl))) (fun _ _ _ _ _ => (pts_one (pt_not (pt_val (pe_call (ok__law_is_case T) (hr.mono (by decide)) (by rfl) T.m__law_is_case T.F__law_is_case.kp T.b__law_is_case .nil pass0 (pa_cons (pv 0) (pa_cons (pv 3) pa_nil))))))) (fun _ _ _ _ _ => (pv 3))) (pe_lst pa_nil) (nomark _)) (pss_one (ps_ret pe_bl)) pss_nil) (pss_cons (ps_setLc (i := 2) (own := [("one", 3)]) (g := (gName 3)) (tt := tYes) rfl sc__law_are_cases.nd rfl rfl (sw_true rfl rfl rfl (by decide +kernel)) (pi_tup (pv 1)) (blkOk_by (N := N__law_are_cases) (sc := defScope s__law_are_cases) (by decide +kernel)) (fun _ _ _ _ _ => (pg_name (i := 3) sc__law_are_cases.nd rfl (by first | exact .inl rfl | exact .inr rfl))) (fun _ _ _ _ _ => pts_nil) (fun _ _ _ _ _ => (pe_ix ix_seq (pv 3) pe_int (fun _ _ => rfl)))) (pss_one (ps_ret (pe_cmpR (op_eqD hr.units) (pv 2) (pe_callB (call_sortedA rfl hr.units) (by rfl) T.z_sorted bt_sorted (pa_cons (pe_callTy (cr_setOf rfl) (by rfl) T.z_set bt_set (pa_cons (pv 2) pa_nil)) pa_nil)) (nomark _))))))))
    go_law_are_cases
theorem ok__law_is_house (T : Txt K mg) : FnOk P w K mg base CX0 3 T.a__law_is_house T.fd__law_is_house ["thing"] (spOf K R_law_is_house) :=
  fn_go (t := t_law_is_house K w) T.F__law_is_house sc__law_is_house (fun ss g post h => by first | (obtain ⟨_, rfl, _⟩ := h; rfl) | (obtain ⟨_, _, rfl, _⟩ := h; rfl) | (obtain ⟨_, _, _, rfl, _⟩ := h; rfl) | (obtain ⟨_, _, _, _, rfl, _⟩ := h; rfl) | (obtain ⟨_, _, _, _, _, rfl, _⟩ := h; rfl))
    (fun cdv A outer s H E hr => (pss_cons (ps_if (PW.pt (pw_or (pt_not (pt_val (pe_callB call_isi (by rfl) T.z_isinstance bt_isinstance (pa_cons (pv 0) (pa_cons (pe_bltn (v := .ty "tuple") (by rfl) T.z_tuple bt_tuple rfl) pa_nil))))) (pw_or1 (pt_cmpR (op_neD hr.units) (pe_callB call_lenA (by rfl) T.z_len bt_len (pa_cons (pv 0) pa_nil)) pe_int (nomark _))))) (pss_one (ps_ret pe_bl)) pss_nil) (pss_one (ps_ret (pe_and (pe_call (ok__law_within T) (hr.mono (by decide)) (by rfl) T.m__law_within T.F__law_within.kp T.b__law_within .nil pass0 (pa_cons (pe_ix ix_seq (pv 0) pe_int (fun _ _ => rfl)) (pa_cons pe_int (pa_cons pe_int pa_nil)))) (pe_one (pe_call (ok__law_are_names T) (hr.mono (by decide)) (by rfl) T.m__law_are_names T.F__law_are_names.kp T.b__law_are_names .nil pass0 (pa_cons (pe_ix ix_seq (pv 0) pe_int (fun _ _ => rfl)) (pa_cons pe_int pa_nil)))))))))
    go_law_is_house
theorem ok_law (T : Txt K mg) : FnOk P w K mg base CX0 34 T.a_law T.fd_law ["script"] (spOf K R_law01) :=
  fn_go (t := t_law01 K w) T.F_law sc_law (fun ss g post h => by first | (obtain ⟨_, rfl, _⟩ := h; rfl) | (obtain ⟨_, _, rfl, _⟩ := h; rfl) | (obtain ⟨_, _, _, rfl, _⟩ := h; rfl) | (obtain ⟨_, _, _, _, rfl, _⟩ := h; rfl) | (obtain ⟨_, _, _, _, _, rfl, _⟩ := h; rfl))
    (fun cdv A outer s H E hr => (pss_cons (ps_for PassesOwn.never rfl (pi_range1 (by rfl) T.z_range (pa_cons (pe_op op_addA pe_int (pe_callB (call_min2A rfl) (by rfl) T.z_min bt_min (pa_cons (pe_callB call_lenA (by rfl) T.z_len bt_len (pa_cons (pv 0) pa_nil)) (pa_cons pe_int pa_nil)))) pa_nil)) (pg_name (i := 1) sc_law.nd rfl (by first | exact .inl rfl | exact .inr rfl)) (pss_cons (ps_set (i := 2) sc_law.nd rfl (by first | exact .inl rfl | exact .inr rfl) (pe_call (ok__law_bag T) (hr.mono (by decide)) (by rfl) T.m__law_bag T.F__law_bag.kp T.b__law_bag .nil pass0 (pa_cons (pv 0) (pa_cons (pv 1) pa_nil)))) (pss_cons (ps_set (i := 3) sc_law.nd rfl (by first | exact .inl rfl | exact .inr rfl) (pe_call (ok__law_house T) (hr.mono (by decide)) (by rfl) T.m__law_house T.F__law_house.kp T.b__law_house .nil pass0 (pa_cons (pv 2) pa_nil))) (pss_cons (ps_set (i := 4) sc_law.nd rfl (by first | exact .inl rfl | exact .inr rfl) (pe_call (ok__law_cases T) (hr.mono (by decide)) (by rfl) T.m__law_cases T.F__law_cases.kp T.b__law_cases .nil pass0 (pa_cons (pv 2) (pa_cons (pv 3) (pa_cons pe_int pa_nil))))) (pss_cons (ps_set (i := 5) sc_law.nd rfl (by first | exact .inl rfl | exact .inr rfl) (pe_call (ok__law_case T) (hr.mono (by decide)) (by rfl) T.m__law_case T.F__law_case.kp T.b__law_case .nil pass0 (pa_cons (pv 2) (pa_cons (pv 3) (pa_cons pe_str pa_nil))))) (pss_cons (ps_set (i := 6) sc_law.nd rfl (by first | exact .inl rfl | exact .inr rfl) (pe_callTy call_tupleA (by rfl) T.z_tuple bt_tuple (pa_cons (pe_lc (own := [("name", 14)]) (g := (gName 14)) (tt := tYes) rfl sc_law.nd (pi_str (pe_slice sl_str pe_str po_none (po_some (pe_op op_addA pe_int (pe_call (ok__law_take T) (hr.mono (by decide)) (by rfl) T.m__law_take T.F__law_take.kp T.b__law_take .nil pass0 (pa_cons (pv 2) (pa_cons pe_int pa_nil))))))) (blkOk_by (N := N_law) (sc := defScope s_law) (by decide +kernel)) (fun _ _ _ _ _ => (pg_name (i := 14) sc_law.nd rfl (by first | exact .inl rfl | exact .inr rfl))) (fun _ _ _ _ _ => pts_nil) (fun _ _ _ _ _ => (pe_op op_addA (pe_tup (pa_cons (pv 14) pa_nil)) (pe_slice sl_tupA (pv 5) (po_some pe_int) po_none)))) pa_nil))) (pss_cons (ps_set (i := 7) sc_law.nd rfl (by first | exact .inl rfl | exact .inr rfl) (pe_tup (pa_cons (pv 5) (pa_cons (pe_op op_addA (pe_op op_addA (pe_slice sl_tupA (pv 5) po_none (po_some pe_int)) (pe_tup (pa_cons pe_int (pa_cons pe_int pa_nil)))) (pe_slice sl_tupA (pv 5) (po_some pe_int) po_none)) pa_nil)))) (pss_cons (ps_set (i := 8) sc_law.nd rfl (by first | exact .inl rfl | exact .inr rfl) (pe_tup (pa_cons (pe_op op_addA (pe_op op_addA (pe_slice sl_tupA (pv 5) po_none (po_some pe_int)) (pe_tup (pa_cons (pe_ix ix_seq (pe_lst (pa_cons pe_int (pa_cons pe_int pa_nil))) (pe_call (ok__law_take T) (hr.mono (by decide)) (by rfl) T.m__law_take T.F__law_take.kp T.b__law_take .nil pass0 (pa_cons (pv 2) (pa_cons pe_int pa_nil))) (fun _ _ => rfl)) (pa_cons (pe_ix ix_seq (pe_lst (pa_cons pe_int (pa_cons pe_int pa_nil))) (pe_call (ok__law_take T) (hr.mono (by decide)) (by rfl) T.m__law_take T.F__law_take.kp T.b__law_take .nil pass0 (pa_cons (pv 2) (pa_cons pe_int pa_nil))) (fun _ _ => rfl)) pa_nil)))) (pe_slice sl_tupA (pv 5) (po_some pe_int) po_none)) pa_nil))) (pss_cons (ps_for PassesOwn.never rfl (pi_list (pe_lst (pa_cons (pv 6) (pa_cons (pv 7) (pa_cons (pv 8) (pa_cons (pe_call (ok__law_odd T) (hr.mono (by decide)) (by rfl) T.m__law_odd T.F__law_odd.kp T.b__law_odd .nil pass0 (pa_cons (pv 2) pa_nil)) (pa_cons (pe_tup pa_nil) (pa_cons (pe_revT (pv 4)) pa_nil)))))))) (pg_name (i := 9) sc_law.nd rfl (by first | exact .inl rfl | exact .inr rfl)) (pss_one (ps_if (PW.pt (pw_or (pt_cmpR (op_neD hr.units) (pe_call (ok_are_cases T) (hr.mono (by decide)) (by rfl) T.m_are_cases T.F_are_cases.kp T.b_are_cases .nil pass0 (pa_cons (pv 3) (pa_cons (pv 9) pa_nil))) (pe_call (ok__law_are_cases T) (hr.mono (by decide)) (by rfl) T.m__law_are_cases T.F__law_are_cases.kp T.b__law_are_cases .nil pass0 (pa_cons (pv 3) (pa_cons (pv 9) pa_nil))) (nomark _)) (pw_or1 (pt_cmpR (op_neD hr.units) (pe_call (ok_is_house T) (hr.mono (by decide)) (by rfl) T.m_is_house T.F_is_house.kp T.b_is_house .nil pass0 (pa_cons (pv 9) pa_nil)) (pe_call (ok__law_is_house T) (hr.mono (by decide)) (by rfl) T.m__law_is_house T.F__law_is_house.kp T.b__law_is_house .nil pass0 (pa_cons (pv 9) pa_nil)) (nomark _))))) (pss_one (ps_ret pe_bl)) pss_nil))) (pss_cons (ps_par (i := 11) (j := 12) rfl sc_law.nd rfl rfl (by decide) rfl rfl (pa_cons (pv 3) (pa_cons (pv 4) pa_nil)) rfl) (pss_one (ps_for PassesOwn.never rfl (pi_range1 (by rfl) T.z_range (pa_cons pe_int pa_nil)) (pg_name (i := 10) sc_law.nd rfl (by first | exact .inl rfl | exact .inr rfl)) (pss_cons (ps_set (i := 13) sc_law.nd rfl (by first | exact .inl rfl | exact .inr rfl) (pe_tup (pa_cons (pe_call (ok_is_house T) (hr.mono (by decide)) (by rfl) T.m_is_house T.F_is_house.kp T.b_is_house .nil pass0 (pa_cons (pv 11) pa_nil)) (pa_cons (pe_call (ok_are_cases T) (hr.mono (by decide)) (by rfl) T.m_are_cases T.F_are_cases.kp T.b_are_cases .nil pass0 (pa_cons (pv 3) (pa_cons (pv 12) pa_nil))) pa_nil)))) (pss_cons (ps_if (pt_cmpR (op_neD hr.units) (pv 13) (pe_tup (pa_cons (pe_call (ok__law_is_house T) (hr.mono (by decide)) (by rfl) T.m__law_is_house T.F__law_is_house.kp T.b__law_is_house .nil pass0 (pa_cons (pv 11) pa_nil)) (pa_cons (pe_call (ok__law_are_cases T) (hr.mono (by decide)) (by rfl) T.m__law_are_cases T.F__law_are_cases.kp T.b__law_are_cases .nil pass0 (pa_cons (pv 3) (pa_cons (pv 12) pa_nil))) pa_nil))) (nomark _)) (pss_one (ps_ret pe_bl)) pss_nil) (pss_cons (ps_if (PW.pt (pw_or (pt_not (pt_val (pe_callB call_isi (by rfl) T.z_isinstance bt_isinstance (pa_cons (pe_ix ix_seq (pv 13) pe_int (fun _ _ => rfl)) (pa_cons (pe_bltn (v := .ty "bool") (by rfl) T.z_bool bt_bool rfl) pa_nil))))) (pw_or1 (pt_not (pt_val (pe_callB call_isi (by rfl) T.z_isinstance bt_isinstance (pa_cons (pe_ix ix_seq (pv 13) pe_int (fun _ _ => rfl)) (pa_cons (pe_bltn (v := .ty "bool") (by rfl) T.z_bool bt_bool rfl) pa_nil)))))))) (pss_one (ps_ret pe_bl)) pss_nil) (pss_one (ps_par (i := 11) (j := 12) rfl sc_law.nd rfl rfl (by decide) rfl rfl (pa_cons (pe_call (ok__law_spoilt T 30) (hr.mono (by decide)) (by rfl) T.m__law_spoilt T.F__law_spoilt.kp T.b__law_spoilt .nil pass0 (pa_cons (pv 2) (pa_cons (pv 11) pa_nil))) (pa_cons (pe_call (ok__law_spoilt T 30) (hr.mono (by decide)) (by rfl) T.m__law_spoilt T.F__law_spoilt.kp T.b__law_spoilt .nil pass0 (pa_cons (pv 2) (pa_cons (pv 12) pa_nil))) pa_nil)) rfl))))))))))))))))) (pss_one (ps_ret pe_bl))))
    go_law01
end
theorem all_mk {l : PySem.W.OpenLaw} {w : PySem.World} {K : PySem.W.Frag} {h : Heap} {mg : Str → Option Value} {fa : Addr} (X : K.In h) (G : h.Ns mainGlobals mg) (hfa : mg "law" = some (.ref fa))
    {f0 f1 f2 f3 f4 f5 f6 f7 f8 f9 f10 f11 f12 f13 f14 f15 f16 f17 f18 f19 f20 f21 f22 f23 f24 f25 f26 : Addr} {od0 an0 od1 an1 od2 an2 od3 an3 od4 an4 od5 an5 od6 an6 od7 an7 od8 an8 od9 an9 od10 an10 od11 an11 od12 an12 od13 an13 od14 an14 od15 an15 od16 an16 od17 an17 od18 an18 od19 an19 od20 an20 od21 an21 od22 an22 od23 an23 od24 an24 od25 an25 od26 an26 : Option Addr} {sl0 sl1 sl2 sl3 sl4 sl5 sl6 sl7 sl8 sl9 sl10 sl11 sl12 sl13 sl14 sl15 sl16 sl17 sl18 sl19 sl20 sl21 sl22 sl23 sl24 sl25 sl26 : Array (Option Value)}
    {oc0 kV0 dc0 pm0 cd0 ct0 oc1 kV1 dc1 pm1 cd1 ct1 oc2 kV2 dc2 pm2 cd2 ct2 oc3 kV3 dc3 pm3 cd3 ct3 oc4 kV4 dc4 pm4 cd4 ct4 oc5 kV5 dc5 pm5 cd5 ct5 oc6 kV6 dc6 pm6 cd6 ct6 oc7 kV7 dc7 pm7 cd7 ct7 oc8 kV8 dc8 pm8 cd8 ct8 oc9 kV9 dc9 pm9 cd9 ct9 oc10 kV10 dc10 pm10 cd10 ct10 oc11 kV11 dc11 pm11 cd11 ct11 oc12 kV12 dc12 pm12 cd12 ct12 oc13 kV13 dc13 pm13 cd13 ct13 oc14 kV14 dc14 pm14 cd14 ct14 oc15 kV15 dc15 pm15 cd15 ct15 oc16 kV16 dc16 pm16 cd16 ct16 oc17 kV17 dc17 pm17 cd17 ct17 oc18 kV18 dc18 pm18 cd18 ct18 oc19 kV19 dc19 pm19 cd19 ct19 oc20 kV20 dc20 pm20 cd20 ct20 oc21 kV21 dc21 pm21 cd21 ct21 oc22 kV22 dc22 pm22 cd22 ct22 oc23 kV23 dc23 pm23 cd23 ct23 oc24 kV24 dc24 pm24 cd24 ct24 oc25 kV25 dc25 pm25 cd25 ct25 oc26 kV26 dc26 pm26 cd26 ct26 : Value}
    (a0 : PySem.W.nsIn K mainGlobals "_law_bag" = some (some (.ref f0))) (l0 : K.lookup f0 = some ⟨oc0, od0, .func (PySem.W.fnOf "_law_bag" "_law_bag" (defArgs s__law_bag) (defBody s__law_bag) (defScope s__law_bag) .none kV0 dc0 pm0 an0 cd0 ct0), sl0⟩) (c0 : PySem.W.codeIn K cd0 "_law_bag" = true) (k0 : PySem.W.keepIn K (.ref f0) = true)
    (a1 : PySem.W.nsIn K mainGlobals "_law_take" = some (some (.ref f1))) (l1 : K.lookup f1 = some ⟨oc1, od1, .func (PySem.W.fnOf "_law_take" "_law_take" (defArgs s__law_take) (defBody s__law_take) (defScope s__law_take) .none kV1 dc1 pm1 an1 cd1 ct1), sl1⟩) (c1 : PySem.W.codeIn K cd1 "_law_take" = true) (k1 : PySem.W.keepIn K (.ref f1) = true)
    (a2 : PySem.W.nsIn K mainGlobals "_law_of" = some (some (.ref f2))) (l2 : K.lookup f2 = some ⟨oc2, od2, .func (PySem.W.fnOf "_law_of" "_law_of" (defArgs s__law_of) (defBody s__law_of) (defScope s__law_of) .none kV2 dc2 pm2 an2 cd2 ct2), sl2⟩) (c2 : PySem.W.codeIn K cd2 "_law_of" = true) (k2 : PySem.W.keepIn K (.ref f2) = true)
    (a3 : PySem.W.nsIn K mainGlobals "_law_house" = some (some (.ref f3))) (l3 : K.lookup f3 = some ⟨oc3, od3, .func (PySem.W.fnOf "_law_house" "_law_house" (defArgs s__law_house) (defBody s__law_house) (defScope s__law_house) .none kV3 dc3 pm3 an3 cd3 ct3), sl3⟩) (c3 : PySem.W.codeIn K cd3 "_law_house" = true) (k3 : PySem.W.keepIn K (.ref f3) = true)
    (a4 : PySem.W.nsIn K mainGlobals "_law_case" = some (some (.ref f4))) (l4 : K.lookup f4 = some ⟨oc4, od4, .func (PySem.W.fnOf "_law_case" "_law_case" (defArgs s__law_case) (defBody s__law_case) (defScope s__law_case) .none kV4 dc4 pm4 an4 cd4 ct4), sl4⟩) (c4 : PySem.W.codeIn K cd4 "_law_case" = true) (k4 : PySem.W.keepIn K (.ref f4) = true)
    (a5 : PySem.W.nsIn K mainGlobals "_law_cases" = some (some (.ref f5))) (l5 : K.lookup f5 = some ⟨oc5, od5, .func (PySem.W.fnOf "_law_cases" "_law_cases" (defArgs s__law_cases) (defBody s__law_cases) (defScope s__law_cases) .none kV5 dc5 pm5 an5 cd5 ct5), sl5⟩) (c5 : PySem.W.codeIn K cd5 "_law_cases" = true) (k5 : PySem.W.keepIn K (.ref f5) = true)
    (a6 : PySem.W.nsIn K mainGlobals "_law_odd" = some (some (.ref f6))) (l6 : K.lookup f6 = some ⟨oc6, od6, .func (PySem.W.fnOf "_law_odd" "_law_odd" (defArgs s__law_odd) (defBody s__law_odd) (defScope s__law_odd) .none kV6 dc6 pm6 an6 cd6 ct6), sl6⟩) (c6 : PySem.W.codeIn K cd6 "_law_odd" = true) (k6 : PySem.W.keepIn K (.ref f6) = true)
    (a7 : PySem.W.nsIn K mainGlobals "is_tuple" = some (some (.ref f7))) (l7 : K.lookup f7 = some ⟨oc7, od7, .func (PySem.W.fnOf "is_tuple" "is_tuple" (defArgs s_is_tuple) (defBody s_is_tuple) (defScope s_is_tuple) .none kV7 dc7 pm7 an7 cd7 ct7), sl7⟩) (c7 : PySem.W.codeIn K cd7 "is_tuple" = true) (k7 : PySem.W.keepIn K (.ref f7) = true)
    (a8 : PySem.W.nsIn K mainGlobals "is_whole" = some (some (.ref f8))) (l8 : K.lookup f8 = some ⟨oc8, od8, .func (PySem.W.fnOf "is_whole" "is_whole" (defArgs s_is_whole) (defBody s_is_whole) (defScope s_is_whole) .none kV8 dc8 pm8 an8 cd8 ct8), sl8⟩) (c8 : PySem.W.codeIn K cd8 "is_whole" = true) (k8 : PySem.W.keepIn K (.ref f8) = true)
    (a9 : PySem.W.nsIn K mainGlobals "is_number" = some (some (.ref f9))) (l9 : K.lookup f9 = some ⟨oc9, od9, .func (PySem.W.fnOf "is_number" "is_number" (defArgs s_is_number) (defBody s_is_number) (defScope s_is_number) .none kV9 dc9 pm9 an9 cd9 ct9), sl9⟩) (c9 : PySem.W.codeIn K cd9 "is_number" = true) (k9 : PySem.W.keepIn K (.ref f9) = true)
    (a10 : PySem.W.nsIn K mainGlobals "is_rising" = some (some (.ref f10))) (l10 : K.lookup f10 = some ⟨oc10, od10, .func (PySem.W.fnOf "is_rising" "is_rising" (defArgs s_is_rising) (defBody s_is_rising) (defScope s_is_rising) .none kV10 dc10 pm10 an10 cd10 ct10), sl10⟩) (c10 : PySem.W.codeIn K cd10 "is_rising" = true) (k10 : PySem.W.keepIn K (.ref f10) = true)
    (a11 : PySem.W.nsIn K mainGlobals "is_name" = some (some (.ref f11))) (l11 : K.lookup f11 = some ⟨oc11, od11, .func (PySem.W.fnOf "is_name" "is_name" (defArgs s_is_name) (defBody s_is_name) (defScope s_is_name) .none kV11 dc11 pm11 an11 cd11 ct11), sl11⟩) (c11 : PySem.W.codeIn K cd11 "is_name" = true) (k11 : PySem.W.keepIn K (.ref f11) = true)
    (a12 : PySem.W.nsIn K mainGlobals "are_names" = some (some (.ref f12))) (l12 : K.lookup f12 = some ⟨oc12, od12, .func (PySem.W.fnOf "are_names" "are_names" (defArgs s_are_names) (defBody s_are_names) (defScope s_are_names) .none kV12 dc12 pm12 an12 cd12 ct12), sl12⟩) (c12 : PySem.W.codeIn K cd12 "are_names" = true) (k12 : PySem.W.keepIn K (.ref f12) = true)
    (a13 : PySem.W.nsIn K mainGlobals "is_house" = some (some (.ref f13))) (l13 : K.lookup f13 = some ⟨oc13, od13, .func (PySem.W.fnOf "is_house" "is_house" (defArgs s_is_house) (defBody s_is_house) (defScope s_is_house) .none kV13 dc13 pm13 an13 cd13 ct13), sl13⟩) (c13 : PySem.W.codeIn K cd13 "is_house" = true) (k13 : PySem.W.keepIn K (.ref f13) = true)
    (a14 : PySem.W.nsIn K mainGlobals "are_times" = some (some (.ref f14))) (l14 : K.lookup f14 = some ⟨oc14, od14, .func (PySem.W.fnOf "are_times" "are_times" (defArgs s_are_times) (defBody s_are_times) (defScope s_are_times) .none kV14 dc14 pm14 an14 cd14 ct14), sl14⟩) (c14 : PySem.W.codeIn K cd14 "are_times" = true) (k14 : PySem.W.keepIn K (.ref f14) = true)
    (a15 : PySem.W.nsIn K mainGlobals "is_team" = some (some (.ref f15))) (l15 : K.lookup f15 = some ⟨oc15, od15, .func (PySem.W.fnOf "is_team" "is_team" (defArgs s_is_team) (defBody s_is_team) (defScope s_is_team) .none kV15 dc15 pm15 an15 cd15 ct15), sl15⟩) (c15 : PySem.W.codeIn K cd15 "is_team" = true) (k15 : PySem.W.keepIn K (.ref f15) = true)
    (a16 : PySem.W.nsIn K mainGlobals "are_places" = some (some (.ref f16))) (l16 : K.lookup f16 = some ⟨oc16, od16, .func (PySem.W.fnOf "are_places" "are_places" (defArgs s_are_places) (defBody s_are_places) (defScope s_are_places) .none kV16 dc16 pm16 an16 cd16 ct16), sl16⟩) (c16 : PySem.W.codeIn K cd16 "are_places" = true) (k16 : PySem.W.keepIn K (.ref f16) = true)
    (a17 : PySem.W.nsIn K mainGlobals "is_case" = some (some (.ref f17))) (l17 : K.lookup f17 = some ⟨oc17, od17, .func (PySem.W.fnOf "is_case" "is_case" (defArgs s_is_case) (defBody s_is_case) (defScope s_is_case) .none kV17 dc17 pm17 an17 cd17 ct17), sl17⟩) (c17 : PySem.W.codeIn K cd17 "is_case" = true) (k17 : PySem.W.keepIn K (.ref f17) = true)
    (a18 : PySem.W.nsIn K mainGlobals "are_cases" = some (some (.ref f18))) (l18 : K.lookup f18 = some ⟨oc18, od18, .func (PySem.W.fnOf "are_cases" "are_cases" (defArgs s_are_cases) (defBody s_are_cases) (defScope s_are_cases) .none kV18 dc18 pm18 an18 cd18 ct18), sl18⟩) (c18 : PySem.W.codeIn K cd18 "are_cases" = true) (k18 : PySem.W.keepIn K (.ref f18) = true)
    (a19 : PySem.W.nsIn K mainGlobals "_law_spoilt" = some (some (.ref f19))) (l19 : K.lookup f19 = some ⟨oc19, od19, .func (PySem.W.fnOf "_law_spoilt" "_law_spoilt" (defArgs s__law_spoilt) (defBody s__law_spoilt) (defScope s__law_spoilt) .none kV19 dc19 pm19 an19 cd19 ct19), sl19⟩) (c19 : PySem.W.codeIn K cd19 "_law_spoilt" = true) (k19 : PySem.W.keepIn K (.ref f19) = true)
    (a20 : PySem.W.nsIn K mainGlobals "_law_within" = some (some (.ref f20))) (l20 : K.lookup f20 = some ⟨oc20, od20, .func (PySem.W.fnOf "_law_within" "_law_within" (defArgs s__law_within) (defBody s__law_within) (defScope s__law_within) .none kV20 dc20 pm20 an20 cd20 ct20), sl20⟩) (c20 : PySem.W.codeIn K cd20 "_law_within" = true) (k20 : PySem.W.keepIn K (.ref f20) = true)
    (a21 : PySem.W.nsIn K mainGlobals "_law_is_name" = some (some (.ref f21))) (l21 : K.lookup f21 = some ⟨oc21, od21, .func (PySem.W.fnOf "_law_is_name" "_law_is_name" (defArgs s__law_is_name) (defBody s__law_is_name) (defScope s__law_is_name) .none kV21 dc21 pm21 an21 cd21 ct21), sl21⟩) (c21 : PySem.W.codeIn K cd21 "_law_is_name" = true) (k21 : PySem.W.keepIn K (.ref f21) = true)
    (a22 : PySem.W.nsIn K mainGlobals "_law_are_names" = some (some (.ref f22))) (l22 : K.lookup f22 = some ⟨oc22, od22, .func (PySem.W.fnOf "_law_are_names" "_law_are_names" (defArgs s__law_are_names) (defBody s__law_are_names) (defScope s__law_are_names) .none kV22 dc22 pm22 an22 cd22 ct22), sl22⟩) (c22 : PySem.W.codeIn K cd22 "_law_are_names" = true) (k22 : PySem.W.keepIn K (.ref f22) = true)
    (a23 : PySem.W.nsIn K mainGlobals "_law_is_case" = some (some (.ref f23))) (l23 : K.lookup f23 = some ⟨oc23, od23, .func (PySem.W.fnOf "_law_is_case" "_law_is_case" (defArgs s__law_is_case) (defBody s__law_is_case) (defScope s__law_is_case) .none kV23 dc23 pm23 an23 cd23 ct23), sl23⟩) (c23 : PySem.W.codeIn K cd23 "_law_is_case" = true) (k23 : PySem.W.keepIn K (.ref f23) = true)
    (a24 : PySem.W.nsIn K mainGlobals "_law_are_cases" = some (some (.ref f24))) (l24 : K.lookup f24 = some ⟨oc24, od24, .func (PySem.W.fnOf "_law_are_cases" "_law_are_cases" (defArgs s__law_are_cases) (defBody s__law_are_cases) (defScope s__law_are_cases) .none kV24 dc24 pm24 an24 cd24 ct24), sl24⟩) (c24 : PySem.W.codeIn K cd24 "_law_are_cases" = true) (k24 : PySem.W.keepIn K (.ref f24) = true)
    (a25 : PySem.W.nsIn K mainGlobals "_law_is_house" = some (some (.ref f25))) (l25 : K.lookup f25 = some ⟨oc25, od25, .func (PySem.W.fnOf "_law_is_house" "_law_is_house" (defArgs s__law_is_house) (defBody s__law_is_house) (defScope s__law_is_house) .none kV25 dc25 pm25 an25 cd25 ct25), sl25⟩) (c25 : PySem.W.codeIn K cd25 "_law_is_house" = true) (k25 : PySem.W.keepIn K (.ref f25) = true)
    (a26 : PySem.W.nsIn K mainGlobals "law" = some (some (.ref f26))) (l26 : K.lookup f26 = some ⟨oc26, od26, .func (PySem.W.fnOf "law" "law" (defArgs s_law) (defBody s_law) (defScope s_law) .none kV26 dc26 pm26 an26 cd26 ct26), sl26⟩) (c26 : PySem.W.codeIn K cd26 "law" = true) (k26 : PySem.W.keepIn K (.ref f26) = true)
    (z_abs : PySem.W.nsIn K mainGlobals "abs" = some none)
    (z_all : PySem.W.nsIn K mainGlobals "all" = some none)
    (z_bool : PySem.W.nsIn K mainGlobals "bool" = some none)
    (z_int : PySem.W.nsIn K mainGlobals "int" = some none)
    (z_isinstance : PySem.W.nsIn K mainGlobals "isinstance" = some none)
    (z_len : PySem.W.nsIn K mainGlobals "len" = some none)
    (z_list : PySem.W.nsIn K mainGlobals "list" = some none)
    (z_min : PySem.W.nsIn K mainGlobals "min" = some none)
    (z_range : PySem.W.nsIn K mainGlobals "range" = some none)
    (z_set : PySem.W.nsIn K mainGlobals "set" = some none)
    (z_sorted : PySem.W.nsIn K mainGlobals "sorted" = some none)
    (z_str : PySem.W.nsIn K mainGlobals "str" = some none)
    (z_tuple : PySem.W.nsIn K mainGlobals "tuple" = some none)
    {k_LATEST_FIRST : Tok} (c_LATEST_FIRST : PySem.W.nsIn K mainGlobals "LATEST_FIRST" = some (some (.int 600 k_LATEST_FIRST)))
    {k_LETTERS : Tok} (c_LETTERS : PySem.W.nsIn K mainGlobals "LETTERS" = some (some (.str "abcdefghijklmnopqrstuvwxyz" k_LETTERS)))
    {k_LONGEST_AT_ALL : Tok} (c_LONGEST_AT_ALL : PySem.W.nsIn K mainGlobals "LONGEST_AT_ALL" = some (some (.int 400 k_LONGEST_AT_ALL)))
    {k_LONGEST_NAME : Tok} (c_LONGEST_NAME : PySem.W.nsIn K mainGlobals "LONGEST_NAME" = some (some (.int 8 k_LONGEST_NAME)))
    {k_LONGEST_USUAL : Tok} (c_LONGEST_USUAL : PySem.W.nsIn K mainGlobals "LONGEST_USUAL" = some (some (.int 200 k_LONGEST_USUAL)))
    {k_MOST_CASES : Tok} (c_MOST_CASES : PySem.W.nsIn K mainGlobals "MOST_CASES" = some (some (.int 8 k_MOST_CASES)))
    {k_MOST_IN_TEAM : Tok} (c_MOST_IN_TEAM : PySem.W.nsIn K mainGlobals "MOST_IN_TEAM" = some (some (.int 3 k_MOST_IN_TEAM)))
    {k_MOST_PEOPLE : Tok} (c_MOST_PEOPLE : PySem.W.nsIn K mainGlobals "MOST_PEOPLE" = some (some (.int 8 k_MOST_PEOPLE)))
    {k_MOST_ROOMS : Tok} (c_MOST_ROOMS : PySem.W.nsIn K mainGlobals "MOST_ROOMS" = some (some (.int 4 k_MOST_ROOMS)))
    : ∃ fd : FuncData, (∀ (s : Shared) (v : Value), BindsTo s fd ⟨[v], []⟩ [("script", v)]) ∧ ∀ base : Heap, K.In base → base.Ns mainGlobals mg → FnOk l.prog w K mg base CX0 34 fa fd ["script"] (spOf K R_law01) := by
  have e := hfa.symm.trans (PySem.W.mg_of X G a26)
  cases e
  have F0 := fun_mk (st := s__law_bag) l0 c0 k0
  have b0 := F0.binds (ps := ["script", "k"]) fun _ _ _ _ _ _ us hl => match us, hl with | [_, _], _ => rfl
  have F1 := fun_mk (st := s__law_take) l1 c1 k1
  have b1 := F1.binds (ps := ["bag", "many"]) fun _ _ _ _ _ _ us hl => match us, hl with | [_, _], _ => rfl
  have F2 := fun_mk (st := s__law_of) l2 c2 k2
  have b2 := F2.binds (ps := ["bag", "some"]) fun _ _ _ _ _ _ us hl => match us, hl with | [_, _], _ => rfl
  have F3 := fun_mk (st := s__law_house) l3 c3 k3
  have b3 := F3.binds (ps := ["bag"]) fun _ _ _ _ _ _ us hl => match us, hl with | [_], _ => rfl
  have F4 := fun_mk (st := s__law_case) l4 c4 k4
  have b4 := F4.binds (ps := ["bag", "house", "name"]) fun _ _ _ _ _ _ us hl => match us, hl with | [_, _, _], _ => rfl
  have F5 := fun_mk (st := s__law_cases) l5 c5 k5
  have b5 := F5.binds (ps := ["bag", "house", "most"]) fun _ _ _ _ _ _ us hl => match us, hl with | [_, _, _], _ => rfl
  have F6 := fun_mk (st := s__law_odd) l6 c6 k6
  have b6 := F6.binds (ps := ["bag"]) fun _ _ _ _ _ _ us hl => match us, hl with | [_], _ => rfl
  have F7 := fun_mk (st := s_is_tuple) l7 c7 k7
  have b7 := F7.binds (ps := ["thing", "fewest", "most"]) fun _ _ _ _ _ _ us hl => match us, hl with | [_, _, _], _ => rfl
  have F8 := fun_mk (st := s_is_whole) l8 c8 k8
  have b8 := F8.binds (ps := ["thing"]) fun _ _ _ _ _ _ us hl => match us, hl with | [_], _ => rfl
  have F9 := fun_mk (st := s_is_number) l9 c9 k9
  have b9 := F9.binds (ps := ["thing", "low", "high"]) fun _ _ _ _ _ _ us hl => match us, hl with | [_, _, _], _ => rfl
  have F10 := fun_mk (st := s_is_rising) l10 c10 k10
  have b10 := F10.binds (ps := ["things"]) fun _ _ _ _ _ _ us hl => match us, hl with | [_], _ => rfl
  have F11 := fun_mk (st := s_is_name) l11 c11 k11
  have b11 := F11.binds (ps := ["thing"]) fun _ _ _ _ _ _ us hl => match us, hl with | [_], _ => rfl
  have F12 := fun_mk (st := s_are_names) l12 c12 k12
  have b12 := F12.binds (ps := ["thing", "most"]) fun _ _ _ _ _ _ us hl => match us, hl with | [_, _], _ => rfl
  have F13 := fun_mk (st := s_is_house) l13 c13 k13
  have b13 := F13.binds (ps := ["thing"]) fun _ _ _ _ _ _ us hl => match us, hl with | [_], _ => rfl
  have F14 := fun_mk (st := s_are_times) l14 c14 k14
  have b14 := F14.binds (ps := ["usual", "longest"]) fun _ _ _ _ _ _ us hl => match us, hl with | [_, _], _ => rfl
  have F15 := fun_mk (st := s_is_team) l15 c15 k15
  have b15 := F15.binds (ps := ["people", "thing"]) fun _ _ _ _ _ _ us hl => match us, hl with | [_, _], _ => rfl
  have F16 := fun_mk (st := s_are_places) l16 c16 k16
  have b16 := F16.binds (ps := ["rooms", "thing"]) fun _ _ _ _ _ _ us hl => match us, hl with | [_, _], _ => rfl
  have F17 := fun_mk (st := s_is_case) l17 c17 k17
  have b17 := F17.binds (ps := ["house", "thing"]) fun _ _ _ _ _ _ us hl => match us, hl with | [_, _], _ => rfl
  have F18 := fun_mk (st := s_are_cases) l18 c18 k18
  have b18 := F18.binds (ps := ["house", "thing"]) fun _ _ _ _ _ _ us hl => match us, hl with | [_, _], _ => rfl
  have F19 := fun_mk (st := s__law_spoilt) l19 c19 k19
  have b19 := F19.binds (ps := ["bag", "thing"]) fun _ _ _ _ _ _ us hl => match us, hl with | [_, _], _ => rfl
  have F20 := fun_mk (st := s__law_within) l20 c20 k20
  have b20 := F20.binds (ps := ["thing", "least", "most"]) fun _ _ _ _ _ _ us hl => match us, hl with | [_, _, _], _ => rfl
  have F21 := fun_mk (st := s__law_is_name) l21 c21 k21
  have b21 := F21.binds (ps := ["thing"]) fun _ _ _ _ _ _ us hl => match us, hl with | [_], _ => rfl
  have F22 := fun_mk (st := s__law_are_names) l22 c22 k22
  have b22 := F22.binds (ps := ["thing", "most"]) fun _ _ _ _ _ _ us hl => match us, hl with | [_, _], _ => rfl
  have F23 := fun_mk (st := s__law_is_case) l23 c23 k23
  have b23 := F23.binds (ps := ["house", "thing"]) fun _ _ _ _ _ _ us hl => match us, hl with | [_, _], _ => rfl
  have F24 := fun_mk (st := s__law_are_cases) l24 c24 k24
  have b24 := F24.binds (ps := ["house", "thing"]) fun _ _ _ _ _ _ us hl => match us, hl with | [_, _], _ => rfl
  have F25 := fun_mk (st := s__law_is_house) l25 c25 k25
  have b25 := F25.binds (ps := ["thing"]) fun _ _ _ _ _ _ us hl => match us, hl with | [_], _ => rfl
  have F26 := fun_mk (st := s_law) l26 c26 k26
  have b26 := F26.binds (ps := ["script"]) fun _ _ _ _ _ _ us hl => match us, hl with | [_], _ => rfl
  let T : Txt K mg := { a__law_bag := f0, fd__law_bag := _, F__law_bag := F0, m__law_bag := PySem.W.mg_of X G a0, b__law_bag := b0, a__law_take := f1, fd__law_take := _, F__law_take := F1, m__law_take := PySem.W.mg_of X G a1, b__law_take := b1, a__law_of := f2, fd__law_of := _, F__law_of := F2, m__law_of := PySem.W.mg_of X G a2, b__law_of := b2, a__law_house := f3, fd__law_house := _, F__law_house := F3, m__law_house := PySem.W.mg_of X G a3, b__law_house := b3, a__law_case := f4, fd__law_case := _, F__law_case := F4, m__law_case := PySem.W.mg_of X G a4, b__law_case := b4, a__law_cases := f5, fd__law_cases := _, F__law_cases := F5, m__law_cases := PySem.W.mg_of X G a5, b__law_cases := b5, a__law_odd := f6, fd__law_odd := _, F__law_odd := F6, m__law_odd := PySem.W.mg_of X G a6, b__law_odd := b6, a_is_tuple := f7, fd_is_tuple := _, F_is_tuple := F7, m_is_tuple := PySem.W.mg_of X G a7, b_is_tuple := b7, a_is_whole := f8, fd_is_whole := _, F_is_whole := F8, m_is_whole := PySem.W.mg_of X G a8, b_is_whole := b8, a_is_number := f9, fd_is_number := _, F_is_number := F9, m_is_number := PySem.W.mg_of X G a9, b_is_number := b9, a_is_rising := f10, fd_is_rising := _, F_is_rising := F10, m_is_rising := PySem.W.mg_of X G a10, b_is_rising := b10, a_is_name := f11, fd_is_name := _, F_is_name := F11, m_is_name := PySem.W.mg_of X G a11, b_is_name := b11, a_are_names := f12, fd_are_names := _, F_are_names := F12, m_are_names := PySem.W.mg_of X G a12, b_are_names := b12, a_is_house := f13, fd_is_house := _, F_is_house := F13, m_is_house := PySem.W.mg_of X G a13, b_is_house := b13, a_are_times := f14, fd_are_times := _, F_are_times := F14, m_are_times := PySem.W.mg_of X G a14, b_are_times := b14, a_is_team := f15, fd_is_team := _, F_is_team := F15, m_is_team := PySem.W.mg_of X G a15, b_is_team := b15, a_are_places := f16, fd_are_places := _, F_are_places := F16, m_are_places := PySem.W.mg_of X G a16, b_are_places := b16, a_is_case := f17, fd_is_case := _, F_is_case := F17, m_is_case := PySem.W.mg_of X G a17, b_is_case := b17, a_are_cases := f18, fd_are_cases := _, F_are_cases := F18, m_are_cases := PySem.W.mg_of X G a18, b_are_cases := b18, a__law_spoilt := f19, fd__law_spoilt := _, F__law_spoilt := F19, m__law_spoilt := PySem.W.mg_of X G a19, b__law_spoilt := b19, a__law_within := f20, fd__law_within := _, F__law_within := F20, m__law_within := PySem.W.mg_of X G a20, b__law_within := b20, a__law_is_name := f21, fd__law_is_name := _, F__law_is_name := F21, m__law_is_name := PySem.W.mg_of X G a21, b__law_is_name := b21, a__law_are_names := f22, fd__law_are_names := _, F__law_are_names := F22, m__law_are_names := PySem.W.mg_of X G a22, b__law_are_names := b22, a__law_is_case := f23, fd__law_is_case := _, F__law_is_case := F23, m__law_is_case := PySem.W.mg_of X G a23, b__law_is_case := b23, a__law_are_cases := f24, fd__law_are_cases := _, F__law_are_cases := F24, m__law_are_cases := PySem.W.mg_of X G a24, b__law_are_cases := b24, a__law_is_house := f25, fd__law_is_house := _, F__law_is_house := F25, m__law_is_house := PySem.W.mg_of X G a25, b__law_is_house := b25, a_law := fa, fd_law := _, F_law := F26, m_law := PySem.W.mg_of X G a26, b_law := b26, z_abs := PySem.W.mg_none_of X G z_abs, z_all := PySem.W.mg_none_of X G z_all, z_bool := PySem.W.mg_none_of X G z_bool, z_int := PySem.W.mg_none_of X G z_int, z_isinstance := PySem.W.mg_none_of X G z_isinstance, z_len := PySem.W.mg_none_of X G z_len, z_list := PySem.W.mg_none_of X G z_list, z_min := PySem.W.mg_none_of X G z_min, z_range := PySem.W.mg_none_of X G z_range, z_set := PySem.W.mg_none_of X G z_set, z_sorted := PySem.W.mg_none_of X G z_sorted, z_str := PySem.W.mg_none_of X G z_str, z_tuple := PySem.W.mg_none_of X G z_tuple, k_LATEST_FIRST := k_LATEST_FIRST, c_LATEST_FIRST := PySem.W.mg_of X G c_LATEST_FIRST, k_LETTERS := k_LETTERS, c_LETTERS := PySem.W.mg_of X G c_LETTERS, k_LONGEST_AT_ALL := k_LONGEST_AT_ALL, c_LONGEST_AT_ALL := PySem.W.mg_of X G c_LONGEST_AT_ALL, k_LONGEST_NAME := k_LONGEST_NAME, c_LONGEST_NAME := PySem.W.mg_of X G c_LONGEST_NAME, k_LONGEST_USUAL := k_LONGEST_USUAL, c_LONGEST_USUAL := PySem.W.mg_of X G c_LONGEST_USUAL, k_MOST_CASES := k_MOST_CASES, c_MOST_CASES := PySem.W.mg_of X G c_MOST_CASES, k_MOST_IN_TEAM := k_MOST_IN_TEAM, c_MOST_IN_TEAM := PySem.W.mg_of X G c_MOST_IN_TEAM, k_MOST_PEOPLE := k_MOST_PEOPLE, c_MOST_PEOPLE := PySem.W.mg_of X G c_MOST_PEOPLE, k_MOST_ROOMS := k_MOST_ROOMS, c_MOST_ROOMS := PySem.W.mg_of X G c_MOST_ROOMS }
  exact ⟨T.fd_law, fun s v => .of_eq rfl, fun base _ _ => ok_law T⟩
theorem law_start {K : PySem.W.Frag} {H : Hp} {a : Addr} {ns : List Int} (hS : SqL K H a (ns.map V.int)) : spOf K R_law01 [.ref a] H (fun v _ => v = .bl true) fun _ _ _ => False :=
  ⟨H, [], [.s ns], [], fun d _ => d = .bool true, (Fr.refl (as := []) (I := H) (H := H) (fun _ _ e => e)).ii, .nil, .cons (.s hS) .nil, ⟨ns, rfl, rfl, rfl⟩, fun v I' H' d g' _ _ i p => by subst p; exact is_bl i⟩
end K01
-- LAST
open PySem PySem.W PyProof.Rows
set_option maxHeartbeats 0 in
theorem PySem.Challenge.cw_roomsday_k01_houses_and_cases_told_holds : PySem.Challenge.rw_roomsday_k01_houses_and_cases_told.Holds := by
  w_on; o_law; k_head; (case hw => w_witness2)
  k_fill
  refine L2.walk_of (l := PySem.Challenge.rw_roomsday_k01_houses_and_cases_told) (n := 63) (k := 34) (x := "script") (CX := fun _ => L2.CX0) (sp := fun w => Go.spOf _ Go.R_law01) rfl (by decide) rfl ⟨rfl, by decide, by decide⟩ (fun w h Y => PySem.W.kIn_of Y) ?F (fun _ _ a ns hl _ hS => K01.law_start hS) (fun _ _ _ _ _ h => h)
  case F =>
    intro w mg fa h KX G hmg
    refine' K01.all_mk KX G hmg ?a0 ?l0 ?c0 ?k0 ?a1 ?l1 ?c1 ?k1 ?a2 ?l2 ?c2 ?k2 ?a3 ?l3 ?c3 ?k3 ?a4 ?l4 ?c4 ?k4 ?a5 ?l5 ?c5 ?k5 ?a6 ?l6 ?c6 ?k6 ?a7 ?l7 ?c7 ?k7 ?a8 ?l8 ?c8 ?k8 ?a9 ?l9 ?c9 ?k9 ?a10 ?l10 ?c10 ?k10 ?a11 ?l11 ?c11 ?k11 ?a12 ?l12 ?c12 ?k12 ?a13 ?l13 ?c13 ?k13 ?a14 ?l14 ?c14 ?k14 ?a15 ?l15 ?c15 ?k15 ?a16 ?l16 ?c16 ?k16 ?a17 ?l17 ?c17 ?k17 ?a18 ?l18 ?c18 ?k18 ?a19 ?l19 ?c19 ?k19 ?a20 ?l20 ?c20 ?k20 ?a21 ?l21 ?c21 ?k21 ?a22 ?l22 ?c22 ?k22 ?a23 ?l23 ?c23 ?k23 ?a24 ?l24 ?c24 ?k24 ?a25 ?l25 ?c25 ?k25 ?a26 ?l26 ?c26 ?k26 ?z_abs ?z_all ?z_bool ?z_int ?z_isinstance ?z_len ?z_list ?z_min ?z_range ?z_set ?z_sorted ?z_str ?z_tuple ?c_LATEST_FIRST ?c_LETTERS ?c_LONGEST_AT_ALL ?c_LONGEST_NAME ?c_LONGEST_USUAL ?c_MOST_CASES ?c_MOST_IN_TEAM ?c_MOST_PEOPLE ?c_MOST_ROOMS
    (case a0 => k_is); (case l0 => k_is); (case c0 => k_is); (case k0 => k_is); (case a1 => k_is); (case l1 => k_is); (case c1 => k_is); (case k1 => k_is); (case a2 => k_is); (case l2 => k_is); (case c2 => k_is); (case k2 => k_is); (case a3 => k_is); (case l3 => k_is); (case c3 => k_is); (case k3 => k_is); (case a4 => k_is); (case l4 => k_is); (case c4 => k_is); (case k4 => k_is); (case a5 => k_is); (case l5 => k_is); (case c5 => k_is); (case k5 => k_is); (case a6 => k_is); (case l6 => k_is); (case c6 => k_is); (case k6 => k_is); (case a7 => k_is); (case l7 => k_is); (case c7 => k_is); (case k7 => k_is); (case a8 => k_is); (case l8 => k_is); (case c8 => k_is); (case k8 => k_is); (case a9 => k_is); (case l9 => k_is); (case c9 => k_is); (case k9 => k_is); (case a10 => k_is); (case l10 => k_is); (case c10 => k_is); (case k10 => k_is); (case a11 => k_is); (case l11 => k_is); (case c11 => k_is); (case k11 => k_is); (case a12 => k_is); (case l12 => k_is); (case c12 => k_is); (case k12 => k_is); (case a13 => k_is); (case l13 => k_is); (case c13 => k_is); (case k13 => k_is); (case a14 => k_is); (case l14 => k_is); (case c14 => k_is); (case k14 => k_is); (case a15 => k_is); (case l15 => k_is); (case c15 => k_is); (case k15 => k_is); (case a16 => k_is); (case l16 => k_is); (case c16 => k_is); (case k16 => k_is); (case a17 => k_is); (case l17 => k_is); (case c17 => k_is); (case k17 => k_is); (case a18 => k_is); (case l18 => k_is); (case c18 => k_is); (case k18 => k_is); (case a19 => k_is); (case l19 => k_is); (case c19 => k_is); (case k19 => k_is); (case a20 => k_is); (case l20 => k_is); (case c20 => k_is); (case k20 => k_is); (case a21 => k_is); (case l21 => k_is); (case c21 => k_is); (case k21 => k_is); (case a22 => k_is); (case l22 => k_is); (case c22 => k_is); (case k22 => k_is); (case a23 => k_is); (case l23 => k_is); (case c23 => k_is); (case k23 => k_is); (case a24 => k_is); (case l24 => k_is); (case c24 => k_is); (case k24 => k_is); (case a25 => k_is); (case l25 => k_is); (case c25 => k_is); (case k25 => k_is); (case a26 => k_is); (case l26 => k_is); (case c26 => k_is); (case k26 => k_is); (case z_abs => k_is); (case z_all => k_is); (case z_bool => k_is); (case z_int => k_is); (case z_isinstance => k_is); (case z_len => k_is); (case z_list => k_is); (case z_min => k_is); (case z_range => k_is); (case z_set => k_is); (case z_sorted => k_is); (case z_str => k_is); (case z_tuple => k_is); (case c_LATEST_FIRST => k_is); (case c_LETTERS => k_is); (case c_LONGEST_AT_ALL => k_is); (case c_LONGEST_NAME => k_is); (case c_LONGEST_USUAL => k_is); (case c_MOST_CASES => k_is); (case c_MOST_IN_TEAM => k_is); (case c_MOST_PEOPLE => k_is); (case c_MOST_ROOMS => k_is)
