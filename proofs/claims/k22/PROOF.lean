import PyProof.Rows.All
import Wide.All
import OpenK.AllK
import Wide.FinOn
import HandS.ForMost
import HandS.Conv
import HandS.Evl
import HandS.DictComp
import HandS.IsInst
import HandS.Strs
import HandS.SetKeys
import HandS.Walk
import HandS.Wide
import HandS.EndBits
import HandS.ExcValue
import HandS.ExcInit
import HandS.Set
import HandS.SetFor
import KE.SortData
import KE.GoesNew
import HandS.TupAny
import HandS.ExcField
import HandS.ExcIs
import HandS.Defaults
import HandS.Words
import KE.KExcIs
import HandS.More
import HandS.Text
import HandS.ExcBuiltin
import PySem.Challenge.RW_roomsday_k22_refusals_apart
set_option Elab.async false
set_option linter.all false
set_option maxRecDepth 100000
set_option maxHeartbeats 4000000
/-! Go: readings of the hand layer over plain data (PyData): heaps, addresses and frozen parts are hidden once here. -/
namespace Go
open PySem L2
open Evl (Ex)
abbrev D := PyData
def kD : Key → D
  | .inl i => .int i
  | .inr x => .str x
/-- what is kept as it is and looked at by rules of its own: exceptions as values; u: a number, a text or nothing -/
inductive Imm : V → D → Prop
  | non : Imm .non .none
  | int (i : Int) : Imm (.int i) (.int i)
  | str (x : Str) : Imm (.str x) (.str x)
inductive Op (I : Hp) : V → D → Prop
  | exc {a : Addr} {C : Addr} : I a = some (ExO (.ref C) a) → Op I (.ref a) (.int (C : Nat))
  | exf {a dx : Addr} {C : Addr} {f : Str} {u : V} {d : D} : I a = some (exo a C (some dx)) → I dx = some (exd dx [(f, u)]) → Imm u d → Op I (.ref a) (.tuple [.int (C : Nat), .str f, d])
theorem Op.mono {I J : Hp} (e : Ex I J) {v : V} {d : D} : Op I v d → Op J v d
  | .exc h => .exc (e _ _ h)
  | .exf h h2 i => .exf (e _ _ h) (e _ _ h2) i
def oD (k : D) : D := .dict [(.none, k)]
mutual
inductive Is (K : PySem.W.Frag) (I : Hp) : V → D → Prop
  | non : Is K I .non .none
  | bl (b : Bool) : Is K I (.bl b) (.bool b)
  | int (i : Int) : Is K I (.int i) (.int i)
  | str (x : Str) : Is K I (.str x) (.str x)
  | lst {a : Addr} {xs : List V} {ds : List D} : Rd I a (.lst xs) → IsAll K I xs ds → Is K I (.ref a) (.list ds)
  | tup {a : Addr} {xs : List V} {ds : List D} : SqT K I a xs → IsAll K I xs ds → Is K I (.ref a) (.tuple ds)
  | dic {a : Addr} {kvs : List (Key × V)} {ds : List (D × D)} : I a = some (.dK kvs) → IsKV K I kvs ds → Is K I (.ref a) (.dict ds)
  | op {v : V} {k : D} : Op I v k → Is K I v (.dict [(.none, k)])
inductive IsAll (K : PySem.W.Frag) (I : Hp) : List V → List D → Prop
  | nil : IsAll K I [] []
  | cons {v : V} {vs : List V} {d : D} {ds : List D} : Is K I v d → IsAll K I vs ds → IsAll K I (v :: vs) (d :: ds)
inductive IsKV (K : PySem.W.Frag) (I : Hp) : List (Key × V) → List (D × D) → Prop
  | nil : IsKV K I [] []
  | cons {k : Key} {v : V} {vs : List (Key × V)} {d : D} {ds : List (D × D)} : Is K I v d → IsKV K I vs ds → IsKV K I ((k, v) :: vs) ((kD k, d) :: ds)
end
section
variable {K : PySem.W.Frag} {I J : Hp}
mutual
theorem Is.mono (e : Ex I J) : ∀ {v : V} {d : D}, Is K I v d → Is K J v d
  | _, _, .non => .non
  | _, _, .bl b => .bl b
  | _, _, .int i => .int i
  | _, _, .str x => .str x
  | _, _, .lst h a => .lst (Evl.ex_rd e h) (IsAll.mono e a)
  | _, _, .tup h a => .tup (Evl.ex_t e h) (IsAll.mono e a)
  | _, _, .dic h a => .dic (e _ _ h) (IsKV.mono e a)
  | _, _, .op h => .op (h.mono e)
theorem IsAll.mono (e : Ex I J) : ∀ {vs : List V} {ds : List D}, IsAll K I vs ds → IsAll K J vs ds
  | _, _, .nil => .nil
  | _, _, .cons h t => .cons (Is.mono e h) (IsAll.mono e t)
theorem IsKV.mono (e : Ex I J) : ∀ {vs : List (Key × V)} {ds : List (D × D)}, IsKV K I vs ds → IsKV K J vs ds
  | _, _, .nil => .nil
  | _, _, .cons h t => .cons (Is.mono e h) (IsKV.mono e t)
end
theorem IsAll.length : ∀ {vs : List V} {ds : List D}, IsAll K I vs ds → vs.length = ds.length
  | _, _, .nil => rfl
  | _, _, .cons _ t => congrArg (· + 1) (IsAll.length t)
theorem IsAll.get : ∀ {vs : List V} {ds : List D} {i : Nat} {d : D}, IsAll K I vs ds → ds[i]? = some d → ∃ v, vs[i]? = some v ∧ Is K I v d
  | _, _, _, _, .nil, e => by simp at e
  | _, _, 0, _, .cons h _, e => by simp at e; subst e; exact ⟨_, rfl, h⟩
  | _, _, i + 1, _, .cons _ t, e => by
    simp at e
    obtain ⟨v, h1, h2⟩ := IsAll.get t e
    exact ⟨v, by simpa using h1, h2⟩
theorem IsAll.getV : ∀ {vs : List V} {ds : List D} {i : Nat} {v : V}, IsAll K I vs ds → vs[i]? = some v → ∃ d, ds[i]? = some d ∧ Is K I v d
  | _, _, _, _, .nil, e => by simp at e
  | _, _, 0, _, .cons h _, e => by simp at e; subst e; exact ⟨_, rfl, h⟩
  | _, _, i + 1, _, .cons _ t, e => by
    simp at e
    obtain ⟨d, h1, h2⟩ := IsAll.getV t e
    exact ⟨d, by simpa using h1, h2⟩
theorem IsAll.append : ∀ {vs ws : List V} {ds es : List D}, IsAll K I vs ds → IsAll K I ws es → IsAll K I (vs ++ ws) (ds ++ es)
  | _, _, _, _, .nil, s => s
  | _, _, _, _, .cons h t, s => .cons h (IsAll.append t s)
theorem IsAll.one {v : V} {d : D} (h : Is K I v d) : IsAll K I [v] [d] := .cons h .nil
theorem IsAll.set {v : V} {d : D} (h : Is K I v d) : ∀ {vs : List V} {ds : List D} (j : Nat), IsAll K I vs ds → IsAll K I (vs.set j v) (ds.set j d)
  | _, _, _, .nil => .nil
  | _, _, 0, .cons _ t => .cons h t
  | _, _, j + 1, .cons q t => .cons q (IsAll.set h j t)
theorem IsAll.take : ∀ {vs : List V} {ds : List D} (n : Nat), IsAll K I vs ds → IsAll K I (vs.take n) (ds.take n)
  | _, _, 0, _ => .nil
  | _, _, _ + 1, .nil => .nil
  | _, _, n + 1, .cons q t => .cons q (IsAll.take n t)
theorem IsAll.drop : ∀ {vs : List V} {ds : List D} (n : Nat), IsAll K I vs ds → IsAll K I (vs.drop n) (ds.drop n)
  | _, _, 0, h => h
  | _, _, _ + 1, .nil => .nil
  | _, _, n + 1, .cons _ t => IsAll.drop n t
end
/-! ### cells: lists that may be written; none: given up -/
abbrev Cell := Option (List D)
inductive Cells (K : PySem.W.Frag) (I H : Hp) : List Addr → List Cell → Prop
  | nil : Cells K I H [] []
  | live {p : Addr} {vs : List V} {ds : List D} {as : List Addr} {g : List Cell} : I p = none → H p = some (.lst vs) → IsAll K I vs ds → p ∉ as → Cells K I H as g → Cells K I H (p :: as) (some ds :: g)
  | dead {p : Addr} {as : List Addr} {g : List Cell} : H p ≠ none → p ∉ as → Cells K I H as g → Cells K I H (p :: as) (none :: g)
/-- what a call leaves: what is frozen stays and is in the heap; all but the cells `as` stays; what is frozen anew is new -/
structure Fr (as : List Addr) (I H I' H' : Hp) : Prop where
  ii : Ex I I'
  ih : Ex I' H'
  fr : ∀ a o, a ∉ as → H a = some o → H' a = some o
  dm : ∀ a, H a ≠ none → H' a ≠ none
  nw : ∀ a, H a ≠ none → I a = none → I' a = none
theorem Fr.refl {as : List Addr} {I H : Hp} (h : Ex I H) : Fr as I H I H := ⟨Ex.refl I, h, fun _ _ _ e => e, fun _ e => e, fun _ _ e => e⟩
theorem Fr.trans {as : List Addr} {I H I1 H1 I2 H2 : Hp} (a : Fr as I H I1 H1) (b : Fr as I1 H1 I2 H2) : Fr as I H I2 H2 :=
  ⟨a.ii.trans b.ii, b.ih, fun p o n e => b.fr p o n (a.fr p o n e), fun p e => b.dm p (a.dm p e), fun p e n => b.nw p (a.dm p e) (a.nw p e n)⟩
theorem Fr.sub {as bs : List Addr} {I H I1 H1 : Hp} (a : Fr as I H I1 H1) (h : ∀ p ∈ as, p ∈ bs) : Fr bs I H I1 H1 :=
  ⟨a.ii, a.ih, fun p o n e => a.fr p o (fun m => n (h p m)) e, a.dm, a.nw⟩
inductive SV where
  | no | d (x : D) | c (j : Nat) | s (ns : List Int)
inductive RelS (K : PySem.W.Frag) (I : Hp) (as : List Addr) : Option V → SV → Prop
  | no {o : Option V} : RelS K I as o .no
  | d {v : V} {x : D} : Is K I v x → RelS K I as (some v) (.d x)
  | c {p : Addr} {j : Nat} : as[j]? = some p → RelS K I as (some (.ref p)) (.c j)
  | s {a : Addr} {ns : List Int} : SqL K I a (ns.map V.int) → RelS K I as (some (.ref a)) (.s ns)
theorem RelS.mono {K : PySem.W.Frag} {I J : Hp} {as bs : List Addr} (e : Ex I J) (h : ∀ (j : Nat) p, as[j]? = some p → bs[j]? = some p) {o : Option V} {s : SV} : RelS K I as o s → RelS K J bs o s
  | .no => .no
  | .d i => .d (i.mono e)
  | .c q => .c (h _ _ q)
  | .s q => .s (Evl.ex_l e q)
theorem Paired.imp {α β : Type} {F G : α → β → Prop} (f : ∀ a b, F a b → G a b) : ∀ {l₁ : List α} {l₂ : List β}, Paired F l₁ l₂ → Paired G l₁ l₂
  | _, _, .nil => .nil
  | _, _, .cons r t => .cons (f _ _ r) (Paired.imp f t)
theorem Paired.get {α β : Type} {F : α → β → Prop} : ∀ {l₁ : List α} {l₂ : List β} {i : Nat} {b : β}, Paired F l₁ l₂ → l₂[i]? = some b → ∃ a, l₁[i]? = some a ∧ F a b
  | _, _, _, _, .nil, e => by simp at e
  | _, _, 0, _, .cons r _, e => by simp at e; subst e; exact ⟨_, rfl, r⟩
  | _, _, i + 1, _, .cons _ t, e => by
    simp at e
    obtain ⟨v, h1, h2⟩ := Paired.get t e
    exact ⟨v, by simpa using h1, h2⟩
theorem Paired.set {α β : Type} {F : α → β → Prop} {a : α} {b : β} (h : F a b) : ∀ {l₁ : List α} {l₂ : List β} (j : Nat), Paired F l₁ l₂ → Paired F (l₁.set j a) (l₂.set j b)
  | _, _, _, .nil => .nil
  | _, _, 0, .cons _ t => .cons h t
  | _, _, j + 1, .cons q t => .cons q (Paired.set h j t)
theorem Paired.app {α β : Type} {F : α → β → Prop} : ∀ {l₁ k₁ : List α} {l₂ k₂ : List β}, Paired F l₁ l₂ → Paired F k₁ k₂ → Paired F (l₁ ++ k₁) (l₂ ++ k₂)
  | _, _, _, _, .nil, s => s
  | _, _, _, _, .cons h t, s => .cons h (Paired.app t s)
theorem Paired.unapp {α β : Type} {F : α → β → Prop} : ∀ {l₁ k₁ : List α} {l₂ k₂ : List β}, l₁.length = l₂.length → Paired F (l₁ ++ k₁) (l₂ ++ k₂) → Paired F l₁ l₂ ∧ Paired F k₁ k₂
  | [], _, [], _, _, h => ⟨.nil, h⟩
  | _ :: l₁, _, _ :: l₂, _, e, .cons q t => by
    obtain ⟨a, b⟩ := Paired.unapp (l₁ := l₁) (l₂ := l₂) (by simpa using e) t
    exact ⟨.cons q a, b⟩
theorem Paired.rev {α β : Type} {F : α → β → Prop} : ∀ {l₁ : List α} {l₂ : List β}, Paired F l₁ l₂ → Paired F l₁.reverse l₂.reverse
  | _, _, .nil => .nil
  | _, _, .cons h t => by
    rw [List.reverse_cons, List.reverse_cons]
    exact Paired.app (Paired.rev t) (.cons h .nil)
theorem ne_mem {r p : Addr} {as : List Addr} (m : r ∈ as) (n : p ∉ as) : r ≠ p := fun y => n (by rw [← y]; exact m)
section
variable {K : PySem.W.Frag} {I I' H H' : Hp} {as : List Addr} {g : List Cell}
theorem Cells.len : ∀ {as : List Addr} {g : List Cell}, Cells K I H as g → as.length = g.length
  | _, _, .nil => rfl
  | _, _, .live _ _ _ _ t => congrArg (· + 1) t.len
  | _, _, .dead _ _ t => congrArg (· + 1) t.len
theorem Cells.nd : ∀ {as : List Addr} {g : List Cell}, Cells K I H as g → as.Nodup
  | _, _, .nil => .nil
  | _, _, .live _ _ _ n t => List.nodup_cons.mpr ⟨n, t.nd⟩
  | _, _, .dead _ n t => List.nodup_cons.mpr ⟨n, t.nd⟩
theorem Cells.in_ : ∀ {as : List Addr} {g : List Cell}, Cells K I H as g → ∀ p ∈ as, H p ≠ none
  | _, _, .nil, _, h => nomatch h
  | _, _, .live _ h2 _ _ t, p, h => by
    rcases List.mem_cons.mp h with e | e
    · subst e; rw [h2]; exact fun z => nomatch z
    · exact t.in_ p e
  | _, _, .dead h2 _ t, p, h => by
    rcases List.mem_cons.mp h with e | e
    · subst e; exact h2
    · exact t.in_ p e
/-- the cells where nothing of them is written -/
theorem Cells.keep (e : Ex I I') (h1 : ∀ p ∈ as, ∀ o, H p = some o → H' p = some o) (h2 : ∀ p ∈ as, I p = none → I' p = none) (c : Cells K I H as g) : Cells K I' H' as g := by
  induction c with
  | nil => exact .nil
  | live a b k n _ ih => exact .live (h2 _ List.mem_cons_self a) (h1 _ List.mem_cons_self _ b) (k.mono e) n (ih (fun p m => h1 p (List.mem_cons_of_mem _ m)) (fun p m => h2 p (List.mem_cons_of_mem _ m)))
  | @dead p as g b n _ ih =>
    refine .dead ?_ n (ih (fun p m => h1 p (List.mem_cons_of_mem _ m)) (fun p m => h2 p (List.mem_cons_of_mem _ m)))
    cases q : H p with
    | none => exact absurd q b
    | some o => rw [h1 p List.mem_cons_self o q]; exact fun z => nomatch z
theorem Cells.at : ∀ {as : List Addr} {g : List Cell} {j : Nat} {p : Addr} {ds : List D}, Cells K I H as g → as[j]? = some p → g[j]? = some (some ds) → I p = none ∧ ∃ vs, H p = some (.lst vs) ∧ IsAll K I vs ds
  | _, _, _, _, _, .nil, e, _ => by simp at e
  | _, _, 0, _, _, .live a b k _ _, e, q => by
    simp at e q
    subst e q
    exact ⟨a, _, b, k⟩
  | _, _, 0, _, _, .dead _ _ _, _, q => by simp at q
  | _, _, j + 1, _, _, .live _ _ _ _ t, e, q => Cells.at t (by simpa using e) (by simpa using q)
  | _, _, j + 1, _, _, .dead _ _ t, e, q => Cells.at t (by simpa using e) (by simpa using q)
/-- one cell is written -/
theorem Cells.put {p : Addr} {vs : List V} {ds : List D} (hi : I p = none) (k : IsAll K I vs ds) : ∀ {as : List Addr} {g : List Cell} {j : Nat}, Cells K I H as g → as[j]? = some p → Cells K I (upd H p (.lst vs)) as (g.set j (some ds))
  | _, _, _, .nil, e => by simp at e
  | _, _, 0, .live a b q n t, e => by
    simp at e
    subst e
    exact .live hi upd_same k n (t.keep (Ex.refl I) (fun r m o z => by rw [upd_ne (ne_mem m n)]; exact z) (fun _ _ z => z))
  | _, _, 0, .dead b n t, e => by
    simp at e
    subst e
    exact .live hi upd_same k n (t.keep (Ex.refl I) (fun r m o z => by rw [upd_ne (ne_mem m n)]; exact z) (fun _ _ z => z))
  | p' :: as, _, j + 1, .live a b q n t, e => by
    have e' : as[j]? = some p := by simpa using e
    have ne : p' ≠ p := (ne_mem (List.mem_of_getElem? e') n).symm
    exact .live a (by rw [upd_ne ne]; exact b) q n (Cells.put hi k t e')
  | p' :: as, _, j + 1, .dead b n t, e => by
    have e' : as[j]? = some p := by simpa using e
    have ne : p' ≠ p := (ne_mem (List.mem_of_getElem? e') n).symm
    exact .dead (by rw [upd_ne ne]; exact b) n (Cells.put hi k t e')
theorem Cells.snoc {p : Addr} {vs : List V} {ds : List D} (hi : I p = none) (hp : H p = some (.lst vs)) (k : IsAll K I vs ds) : ∀ {as : List Addr} {g : List Cell}, p ∉ as → Cells K I H as g → Cells K I H (as ++ [p]) (g ++ [some ds])
  | _, _, _, .nil => .live hi hp k (fun z => nomatch z) .nil
  | _, _, m, .live a b q n t => .live a b q (fun z => by
      rcases List.mem_append.mp z with z | z
      · exact n z
      · rw [List.mem_singleton] at z
        exact m (z ▸ List.mem_cons_self)) (Cells.snoc hi hp k (fun z => m (List.mem_cons_of_mem _ z)) t)
  | _, _, m, .dead b n t => .dead b (fun z => by
      rcases List.mem_append.mp z with z | z
      · exact n z
      · rw [List.mem_singleton] at z
        exact m (z ▸ List.mem_cons_self)) (Cells.snoc hi hp k (fun z => m (List.mem_cons_of_mem _ z)) t)
/-- one cell is frozen, or given up -/
theorem Cells.give {p : Addr} (e : Ex I I') (hI : ∀ a, a ≠ p → I a = none → I' a = none) : ∀ {as : List Addr} {g : List Cell} {j : Nat}, Cells K I H as g → as[j]? = some p → Cells K I' H as (g.set j none)
  | _, _, _, .nil, q => by simp at q
  | _, _, 0, .live a b k n t, q => by
    simp at q
    subst q
    exact .dead (by rw [b]; exact fun z => nomatch z) n (t.keep e (fun _ _ _ z => z) (fun r m z => hI r (ne_mem m n) z))
  | _, _, 0, .dead b n t, q => by
    simp at q
    subst q
    exact .dead b n (t.keep e (fun _ _ _ z => z) (fun r m z => hI r (ne_mem m n) z))
  | p' :: as, _, j + 1, .live a b k n t, q => by
    have e' : as[j]? = some p := by simpa using q
    have ne : p' ≠ p := (ne_mem (List.mem_of_getElem? e') n).symm
    exact .live (hI _ ne a) b (k.mono e) n (Cells.give e hI t e')
  | p' :: as, _, j + 1, .dead b n t, q => by
    have e' : as[j]? = some p := by simpa using q
    exact .dead b n (Cells.give e hI t e')
end
/-! ### the world at a point of a def: ρ its slots, ts what is reckoned and not yet used, g the cells (those lent to it, bs, first) -/
def Rels (K : PySem.W.Frag) (I : Hp) (as : List Addr) : List (Option V) → List SV → Prop := Paired (RelS K I as)
structure Wd (K : PySem.W.Frag) (I0 H0 : Hp) (bs ls : List Addr) (ρ ts : List SV) (g : List Cell) (σ : L2.St) (vs : List V) (I H : Hp) : Prop where
  fr : Fr bs I0 H0 I H
  ce : Cells K I H (bs ++ ls) g
  lo : ∀ p ∈ ls, H0 p = none
  rs : Rels K I (bs ++ ls) σ ρ
  rv : Rels K I (bs ++ ls) (vs.map some) ts
def World (K : PySem.W.Frag) (I0 H0 : Hp) (bs : List Addr) (ρ ts : List SV) (g : List Cell) (σ : L2.St) (vs : List V) (H : Hp) : Prop :=
  ∃ I ls, Wd K I0 H0 bs ls ρ ts g σ vs I H
abbrev PostE := SV → List Cell → Prop
def GoE (K : PySem.W.Frag) (n : Nat) (te : TE) (ρ ts : List SV) (g : List Cell) (post : PostE) : Prop :=
  ∀ I0 H0 bs σ vs H, bs.length = n → World K I0 H0 bs ρ ts g σ vs H → ∀ Q : VK, (∀ v H' s g', World K I0 H0 bs ρ (s :: ts) g' σ (v :: vs) H' → post s g' → Q v H') → te σ H Q
def GoT (K : PySem.W.Frag) (n : Nat) (tt : TT) (ρ ts : List SV) (g : List Cell) (post : Bool → List Cell → Prop) : Prop :=
  ∀ I0 H0 bs σ vs H, bs.length = n → World K I0 H0 bs ρ ts g σ vs H → ∀ Q : Bool → Hp → Prop, (∀ b H' g', World K I0 H0 bs ρ ts g' σ vs H' → post b g' → Q b H') → tt σ H Q
def GoA (K : PySem.W.Frag) (n : Nat) (ta : TA) (ρ ts : List SV) (g : List Cell) (post : List SV → List Cell → Prop) : Prop :=
  ∀ I0 H0 bs σ vs H, bs.length = n → World K I0 H0 bs ρ ts g σ vs H → ∀ Q : List V → Hp → Prop,
    (∀ ws H' ss g', ws.length = ss.length → World K I0 H0 bs ρ (ss.reverse ++ ts) g' σ (ws.reverse ++ vs) H' → post ss g' → Q ws H') → ta σ H Q
/-- an operation on what lies on top -/
def GoR (K : PySem.W.Frag) (n : Nat) (r : List V → Hp → VK → Prop) (ss : List SV) (ρ ts : List SV) (g : List Cell) (post : PostE) : Prop :=
  ∀ I0 H0 bs σ ws vs H, bs.length = n → ws.length = ss.length → World K I0 H0 bs ρ (ss.reverse ++ ts) g σ (ws.reverse ++ vs) H → ∀ Q : VK, (∀ v H' s g', World K I0 H0 bs ρ (s :: ts) g' σ (v :: vs) H' → post s g' → Q v H') → r ws H Q
def un2 (r : R2) : List V → Hp → VK → Prop := fun ws H Q => ∃ x y, ws = [x, y] ∧ r x y H Q
def un1 (r : V → Hp → VK → Prop) : List V → Hp → VK → Prop := fun ws H Q => ∃ x, ws = [x] ∧ r x H Q
structure Ks where
  nx : List SV → List Cell → Prop
  rt : SV → List Cell → Prop
  bk : List SV → List Cell → Prop := fun _ _ => False
  ct : List SV → List Cell → Prop := fun _ _ => False
structure Meets (K : PySem.W.Frag) (I0 H0 : Hp) (bs : List Addr) (κ : Ks) (E : Ends) : Prop where
  nx : ∀ σ H ρ g, World K I0 H0 bs ρ [] g σ [] H → κ.nx ρ g → E.nx σ H
  rt : ∀ v σ H ρ s g, World K I0 H0 bs ρ [s] g σ [v] H → κ.rt s g → E.rt v H
  bk : ∀ σ H ρ g, World K I0 H0 bs ρ [] g σ [] H → κ.bk ρ g → E.bk σ H
  ct : ∀ σ H ρ g, World K I0 H0 bs ρ [] g σ [] H → κ.ct ρ g → E.ct σ H
def GoS (K : PySem.W.Frag) (n : Nat) (t : TS) (ρ : List SV) (g : List Cell) (κ : Ks) : Prop :=
  ∀ I0 H0 bs σ H E, bs.length = n → World K I0 H0 bs ρ [] g σ [] H → Meets K I0 H0 bs κ E → t E σ H
end Go
namespace Go
open PySem L2
open Evl (Ex)
section
variable {K : PySem.W.Frag} {I0 H0 I I' H H' : Hp} {bs ls as : List Addr} {ρ ts : List SV} {g : List Cell} {σ : L2.St} {vs : List V} {n : Nat}
theorem Rels.mono (e : Ex I I') {o : List (Option V)} {ss : List SV} (r : Rels K I as o ss) : Rels K I' as o ss := Paired.imp (fun _ _ h => h.mono e fun _ _ q => q) r
/-- nothing of what stood is written -/
theorem Wd.step (w : Wd K I0 H0 bs ls ρ ts g σ vs I H) (f : Fr [] I H I' H') : Wd K I0 H0 bs ls ρ ts g σ vs I' H' where
  fr := w.fr.trans (f.sub fun _ z => nomatch z)
  ce := w.ce.keep f.ii (fun p _ o e => f.fr p o (fun z => nomatch z) e) (fun p m e => f.nw p (w.ce.in_ p m) e)
  lo := w.lo
  rs := w.rs.mono f.ii
  rv := w.rv.mono f.ii
theorem Wd.push {v : V} {s : SV} (w : Wd K I0 H0 bs ls ρ ts g σ vs I H) (r : RelS K I (bs ++ ls) (some v) s) : Wd K I0 H0 bs ls ρ (s :: ts) g σ (v :: vs) I H := ⟨w.fr, w.ce, w.lo, w.rs, .cons r w.rv⟩
theorem Wd.pop {v : V} {s : SV} (w : Wd K I0 H0 bs ls ρ (s :: ts) g σ (v :: vs) I H) : Wd K I0 H0 bs ls ρ ts g σ vs I H ∧ RelS K I (bs ++ ls) (some v) s := by
  obtain ⟨a, b, c, d, e⟩ := w
  cases e with
  | cons r t => exact ⟨⟨a, b, c, d, t⟩, r⟩
theorem Wd.pops {ws : List V} {ss : List SV} (hl : ws.length = ss.length) (w : Wd K I0 H0 bs ls ρ (ss.reverse ++ ts) g σ (ws.reverse ++ vs) I H) : Wd K I0 H0 bs ls ρ ts g σ vs I H ∧ Rels K I (bs ++ ls) (ws.map some) ss := by
  obtain ⟨a, b, c, d, e⟩ := w
  unfold Rels at e
  rw [List.map_append] at e
  obtain ⟨e1, e2⟩ := Paired.unapp (by rw [List.length_map, List.length_reverse, List.length_reverse]; exact hl) e
  refine ⟨⟨a, b, c, d, e2⟩, ?_⟩
  have h := Paired.rev e1
  rw [← List.map_reverse, List.reverse_reverse, List.reverse_reverse] at h
  exact h
theorem fr_new {o : HO} {p : Addr} (h : Ex I H) (hp : H p = none) : Fr [] I H (upd I p o) (upd H p o) := by
  have ip : I p = none := Evl.fresh_back h hp
  refine ⟨Ex.new ip, fun a u e => ?_, fun a u _ e => ?_, fun a e => ?_, fun a e q => ?_⟩
  · by_cases z : a = p
    · subst z; rw [upd_same] at e ⊢; exact e
    · rw [upd_ne z] at e ⊢; exact h a u e
  · rw [upd_ne (ne_of_none e hp)]; exact e
  · have z : a ≠ p := fun y => e (y ▸ hp)
    rw [upd_ne z]; exact e
  · have z : a ≠ p := fun y => e (y ▸ hp)
    rw [upd_ne z]; exact q
/-! ### operations on data: nothing is written -/
def OpD (K : PySem.W.Frag) (r : List V → Hp → VK → Prop) (ds : List D) (post : D → Prop) : Prop :=
  ∀ I H ws, Ex I H → IsAll K I ws ds → ∀ Q : VK, (∀ v I' H' d, Fr [] I H I' H' → Is K I' v d → post d → Q v H') → r ws H Q
def GoD (K : PySem.W.Frag) (n : Nat) (te : TE) (ρ ts : List SV) (g : List Cell) (post : D → List Cell → Prop) : Prop := GoE K n te ρ ts g fun s g' => ∃ d, s = .d d ∧ post d g'
theorem rels_d : ∀ {ws : List V} {ds : List D}, Rels K I as (ws.map some) (ds.map SV.d) → IsAll K I ws ds
  | [], [], _ => .nil
  | _ :: _, _ :: _, .cons r t => by
    cases r with
    | d h => exact .cons h (rels_d t)
theorem gr_op {r : List V → Hp → VK → Prop} {ds : List D} {post : PostE} (h : OpD K r ds fun d => post (.d d) g) : GoR K n r (ds.map SV.d) ρ ts g post := by
  intro I0 H0 bs σ ws vs H hn hl ⟨I, ls, w⟩ Q q
  obtain ⟨w1, r1⟩ := w.pops hl
  exact h I H ws w.fr.ih (rels_d r1) Q fun v I' H' d f i p => q v H' (.d d) g ⟨I', ls, (w1.step f).push (.d i)⟩ p
theorem GoE.imp {te : TE} {P P' : PostE} (h : GoE K n te ρ ts g P) (k : ∀ s g', P s g' → P' s g') : GoE K n te ρ ts g P' :=
  fun I0 H0 bs σ vs H hn w Q q => h I0 H0 bs σ vs H hn w Q fun v H' s g' w' p => q v H' s g' w' (k s g' p)
theorem GoD.imp {te : TE} {P P' : D → List Cell → Prop} (h : GoD K n te ρ ts g P) (k : ∀ d g', P d g' → P' d g') : GoD K n te ρ ts g P' :=
  GoE.imp h fun s g' ⟨d, e, p⟩ => ⟨d, e, k d g' p⟩
theorem GoT.imp {tt : TT} {P P' : Bool → List Cell → Prop} (h : GoT K n tt ρ ts g P) (k : ∀ b g', P b g' → P' b g') : GoT K n tt ρ ts g P' :=
  fun I0 H0 bs σ vs H hn w Q q => h I0 H0 bs σ vs H hn w Q fun b H' g' w' p => q b H' g' w' (k b g' p)
/-- a reading through another one -/
theorem GoE.of {te te' : TE} {P : PostE} (h : GoE K n te ρ ts g P) (k : ∀ σ H Q, te σ H Q → te' σ H Q) : GoE K n te' ρ ts g P := fun I0 H0 bs σ vs H hn w Q q => k σ H Q (h I0 H0 bs σ vs H hn w Q q)
/-! ### names, constants -/
theorem ge_var {i : Nat} {s : SV} {post : PostE} (h : ρ[i]? = some s) (hs : s ≠ .no) (p : post s g) : GoE K n (tVar i) ρ ts g post := by
  intro I0 H0 bs σ vs H hn ⟨I, ls, w⟩ Q q
  obtain ⟨o, e, r⟩ := Paired.get w.rs h
  cases r with
  | no => exact absurd rfl hs
  | d i => exact ⟨_, e, q _ H _ g ⟨I, ls, w.push (.d i)⟩ p⟩
  | c i => exact ⟨_, e, q _ H _ g ⟨I, ls, w.push (.c i)⟩ p⟩
  | s i => exact ⟨_, e, q _ H _ g ⟨I, ls, w.push (.s i)⟩ p⟩
theorem gd_var {i : Nat} {d : D} {post : D → List Cell → Prop} (h : ρ[i]? = some (.d d)) (p : post d g) : GoD K n (tVar i) ρ ts g post := ge_var h (fun z => nomatch z) ⟨d, rfl, p⟩
theorem gd_c {v : V} {d : D} {post : D → List Cell → Prop} (h : ∀ I, Is K I v d) (p : post d g) : GoD K n (tC v) ρ ts g post :=
  fun I0 H0 bs σ vs H hn ⟨I, ls, w⟩ Q q => q v H (.d d) g ⟨I, ls, w.push (.d (h I))⟩ ⟨d, rfl, p⟩
theorem gd_int {i : Int} {post : D → List Cell → Prop} (p : post (.int i) g) : GoD K n (tC (.int i)) ρ ts g post := gd_c (fun _ => .int i) p
theorem gd_str {i : Str} {post : D → List Cell → Prop} (p : post (.str i) g) : GoD K n (tC (.str i)) ρ ts g post := gd_c (fun _ => .str i) p
theorem gd_bl {i : Bool} {post : D → List Cell → Prop} (p : post (.bool i) g) : GoD K n (tC (.bl i)) ρ ts g post := gd_c (fun _ => .bl i) p
theorem gd_non {post : D → List Cell → Prop} (p : post .none g) : GoD K n (tC .non) ρ ts g post := gd_c (fun _ => .non) p
/-! ### two operands, one operand -/
theorem ge_op {r : R2} {ta tb : TE} {post : PostE} (h : GoE K n ta ρ ts g fun s1 g1 => GoE K n tb ρ (s1 :: ts) g1 fun s2 g2 => GoR K n (un2 r) [s1, s2] ρ ts g2 post) : GoE K n (tOp r ta tb) ρ ts g post := by
  intro I0 H0 bs σ vs H hn w Q q
  refine h I0 H0 bs σ vs H hn w _ fun v1 H1 s1 g1 w1 p1 => ?_
  refine p1 I0 H0 bs σ _ H1 hn w1 _ fun v2 H2 s2 g2 w2 p2 => ?_
  obtain ⟨x, y, e, k⟩ := p2 I0 H0 bs σ [v1, v2] vs H2 hn rfl w2 Q q
  cases e
  exact k
theorem gd_op {r : R2} {ta tb : TE} {post : D → List Cell → Prop} (h : GoD K n ta ρ ts g fun d1 g1 => GoD K n tb ρ (.d d1 :: ts) g1 fun d2 g2 => OpD K (un2 r) [d1, d2] fun d => post d g2) : GoD K n (tOp r ta tb) ρ ts g post :=
  ge_op (GoE.imp h fun s1 g1 ⟨d1, e1, h1⟩ => by
    subst e1
    exact GoE.imp h1 fun s2 g2 ⟨d2, e2, h2⟩ => by
      subst e2
      exact gr_op (ds := [d1, d2]) fun I H ws e i Q q => h2 I H ws e i Q fun v I' H' d f i p => q v I' H' d f i ⟨d, rfl, p⟩)
theorem gd_un {r : V → Hp → VK → Prop} {ta : TE} {post : D → List Cell → Prop} (h : GoD K n ta ρ ts g fun d1 g1 => OpD K (un1 r) [d1] fun d => post d g1) : GoD K n (tUn r ta) ρ ts g post := by
  intro I0 H0 bs σ vs H hn w Q q
  refine h I0 H0 bs σ vs H hn w _ fun v1 H1 s1 g1 ⟨I, ls, w1⟩ ⟨d1, e1, p1⟩ => ?_
  subst e1
  obtain ⟨w2, r⟩ := w1.pop
  cases r with
  | d i =>
    obtain ⟨x, e, k⟩ := p1 I H1 [v1] w1.fr.ih (.one i) Q fun v I' H' d f i p => q v H' (.d d) g1 ⟨I', ls, (w2.step f).push (.d i)⟩ ⟨d, rfl, p⟩
    cases e
    exact k
theorem opd_I {C : Int → Int → Prop} {f : Int → Int → V} {i j : Int} {d : D} {post : D → Prop} (hv : ∀ I, Is K I (f i j) d) (hc : C i j) (p : post d) : OpD K (un2 (rI C f)) [.int i, .int j] post := by
  intro I H ws e h Q q
  cases h with | cons h1 t => cases t with | cons h2 t => cases t; cases h1; cases h2; exact ⟨_, _, rfl, i, j, rfl, rfl, hc, q _ I H d (Fr.refl e) (hv I) p⟩
theorem opd_I0 {f : Int → Int → V} {i j : Int} {d : D} {post : D → Prop} (hv : ∀ I, Is K I (f i j) d) (p : post d) : OpD K (un2 (rI0 f)) [.int i, .int j] post := by
  intro I H ws e h Q q
  cases h with | cons h1 t => cases t with | cons h2 t => cases t; cases h1; cases h2; exact ⟨_, _, rfl, i, j, rfl, rfl, q _ I H d (Fr.refl e) (hv I) p⟩
/-! ### data without dicts as the library's -/
mutual
theorem Is.dp {d : D} (c : d.canLay0 = true) (e : Ex I H) : ∀ {v : V}, Is K I v d → Dp K H v d
  | _, .non => .non
  | _, .bl b => .bl b
  | _, .int i => .int i
  | _, .str x => .str x
  | _, .lst h a => .lst (.inl (Evl.ex_rd e h)) (IsAll.dp (by unfold PyData.canLay0 at c; exact c) e a)
  | _, .tup h a => .tup (Evl.ex_t e h) (IsAll.dp (by unfold PyData.canLay0 at c; exact c) e a)
  | _, .dic _ _ => by unfold PyData.canLay0 at c; cases c
theorem IsAll.dp {ds : List D} (c : PyData.canLayAll0 ds = true) (e : Ex I H) : ∀ {vs : List V}, IsAll K I vs ds → DpAll K H vs ds
  | _, .nil => .nil
  | _, .cons h t => by
    unfold PyData.canLayAll0 at c
    rw [Bool.and_eq_true] at c
    exact .cons (Is.dp c.1 e h) (IsAll.dp c.2 e t)
end
end
end Go
namespace Go
open PySem L2
open Evl (Ex)
section
variable {K : PySem.W.Frag} {I0 H0 I I' H H' : Hp} {bs ls as : List Addr} {ρ ts : List SV} {g : List Cell} {σ : L2.St} {vs : List V} {n : Nat}
/-! ### tests -/
theorem gt_test {te : TE} {post : Bool → List Cell → Prop} (h : GoD K n te ρ ts g fun d g' => ∃ b, d = .bool b ∧ post b g') : GoT K n (tTest te) ρ ts g post := by
  intro I0 H0 bs σ vs H hn w Q q
  refine h I0 H0 bs σ vs H hn w _ fun v H1 s g1 ⟨I, ls, w1⟩ ⟨d, e, b, e2, p⟩ => ?_
  subst e e2
  obtain ⟨w2, r⟩ := w1.pop
  cases r with | d i => cases i; exact ⟨b, rfl, q b H1 g1 ⟨I, ls, w2⟩ p⟩
theorem gt_B {te : TE} {post : Bool → List Cell → Prop} (h : GoD K n te ρ ts g fun d g' => ∃ b, d = .bool b ∧ post b g') : GoT K n (tB te) ρ ts g post := gt_test h
theorem gt_and {t u : TT} {post : Bool → List Cell → Prop} (h : GoT K n t ρ ts g fun b g1 => (b = true → GoT K n u ρ ts g1 post) ∧ (b = false → post false g1)) : GoT K n (tAnd t u) ρ ts g post := by
  intro I0 H0 bs σ vs H hn w Q q
  refine h I0 H0 bs σ vs H hn w _ fun b H1 g1 w1 ⟨p, p'⟩ => ?_
  cases b with
  | true => exact p rfl I0 H0 bs σ vs H1 hn w1 Q q
  | false => exact q false H1 g1 w1 (p' rfl)
theorem gt_or {t u : TT} {post : Bool → List Cell → Prop} (h : GoT K n t ρ ts g fun b g1 => (b = false → GoT K n u ρ ts g1 post) ∧ (b = true → post true g1)) : GoT K n (tOr t u) ρ ts g post := by
  intro I0 H0 bs σ vs H hn w Q q
  refine h I0 H0 bs σ vs H hn w _ fun b H1 g1 w1 ⟨p, p'⟩ => ?_
  cases b with
  | true => exact q true H1 g1 w1 (p' rfl)
  | false => exact p rfl I0 H0 bs σ vs H1 hn w1 Q q
theorem gt_not {t : TT} {post : Bool → List Cell → Prop} (h : GoT K n t ρ ts g fun b g1 => post (!b) g1) : GoT K n (tNot t) ρ ts g post :=
  fun I0 H0 bs σ vs H hn w Q q => h I0 H0 bs σ vs H hn w _ fun b H1 g1 w1 p => q (!b) H1 g1 w1 p
theorem gt_yes {post : Bool → List Cell → Prop} (h : post true g) : GoT K n tYes ρ ts g post := fun I0 H0 bs σ vs H hn w Q q => q true H g w h
theorem gd_and {ta tb : TE} {post : D → List Cell → Prop} (h : GoD K n ta ρ ts g fun d g1 => ∃ b, d = .bool b ∧ (b = true → GoD K n tb ρ ts g1 post) ∧ (b = false → post (.bool false) g1)) : GoD K n (tAndV ta tb) ρ ts g post := by
  intro I0 H0 bs σ vs H hn w Q q
  refine h I0 H0 bs σ vs H hn w _ fun v H1 s g1 ⟨I, ls, w1⟩ ⟨d, e, b, e2, p, p'⟩ => ?_
  subst e e2
  obtain ⟨w2, r⟩ := w1.pop
  cases r with
  | d i =>
    cases i
    refine ⟨b, rfl, ?_⟩
    cases b with
    | true => rw [if_pos rfl]; exact p rfl I0 H0 bs σ vs H1 hn ⟨I, ls, w2⟩ Q q
    | false => rw [if_neg Bool.false_ne_true]; exact q _ H1 _ g1 ⟨I, ls, w2.push (.d (.bl false))⟩ ⟨_, rfl, p' rfl⟩
theorem gd_or {ta tb : TE} {post : D → List Cell → Prop} (h : GoD K n ta ρ ts g fun d g1 => ∃ b, d = .bool b ∧ (b = false → GoD K n tb ρ ts g1 post) ∧ (b = true → post (.bool true) g1)) : GoD K n (tOrV ta tb) ρ ts g post := by
  intro I0 H0 bs σ vs H hn w Q q
  refine h I0 H0 bs σ vs H hn w _ fun v H1 s g1 ⟨I, ls, w1⟩ ⟨d, e, b, e2, p, p'⟩ => ?_
  subst e e2
  obtain ⟨w2, r⟩ := w1.pop
  cases r with
  | d i =>
    cases i
    refine ⟨b, rfl, ?_⟩
    cases b with
    | false => rw [if_neg Bool.false_ne_true]; exact p rfl I0 H0 bs σ vs H1 hn ⟨I, ls, w2⟩ Q q
    | true => rw [if_pos rfl]; exact q _ H1 _ g1 ⟨I, ls, w2.push (.d (.bl true))⟩ ⟨_, rfl, p' rfl⟩
theorem gd_not {ta : TE} {post : D → List Cell → Prop} (h : GoD K n ta ρ ts g fun d g1 => ∃ b, d = .bool b ∧ post (.bool (!b)) g1) : GoD K n (tNotV ta) ρ ts g post := by
  intro I0 H0 bs σ vs H hn w Q q
  refine h I0 H0 bs σ vs H hn w _ fun v H1 s g1 ⟨I, ls, w1⟩ ⟨d, e, b, e2, p⟩ => ?_
  subst e e2
  obtain ⟨w2, r⟩ := w1.pop
  cases r with
  | d i => cases i; exact ⟨b, rfl, q _ H1 _ g1 ⟨I, ls, w2.push (.d (.bl _))⟩ ⟨_, rfl, p⟩⟩
theorem gd_if {t : TT} {ta tb : TE} {post : PostE} (h : GoT K n t ρ ts g fun b g1 => (b = true → GoE K n ta ρ ts g1 post) ∧ (b = false → GoE K n tb ρ ts g1 post)) : GoE K n (tIf t ta tb) ρ ts g post := by
  intro I0 H0 bs σ vs H hn w Q q
  refine h I0 H0 bs σ vs H hn w _ fun b H1 g1 w1 ⟨p, p'⟩ => ?_
  cases b with
  | true => rw [if_pos rfl]; exact p rfl I0 H0 bs σ vs H1 hn w1 Q q
  | false => rw [if_neg Bool.false_ne_true]; exact p' rfl I0 H0 bs σ vs H1 hn w1 Q q
/-! ### argument lists -/
def GoDs (K : PySem.W.Frag) (n : Nat) (ta : TA) (ρ ts : List SV) (g : List Cell) (post : List D → List Cell → Prop) : Prop := GoA K n ta ρ ts g fun ss g' => ∃ ds, ss = ds.map SV.d ∧ post ds g'
theorem ga_nil {post : List SV → List Cell → Prop} (p : post [] g) : GoA K n tNil ρ ts g post := fun I0 H0 bs σ vs H hn w Q q => q [] H [] g rfl w p
theorem ga_cons {ta : TE} {tr : TA} {post : List SV → List Cell → Prop} (h : GoE K n ta ρ ts g fun s g1 => GoA K n tr ρ (s :: ts) g1 fun ss g2 => post (s :: ss) g2) : GoA K n (tCons ta tr) ρ ts g post := by
  intro I0 H0 bs σ vs H hn w Q q
  refine h I0 H0 bs σ vs H hn w _ fun v H1 s g1 w1 p1 => p1 I0 H0 bs σ _ H1 hn w1 _ fun ws H2 ss g2 hl w2 p2 => ?_
  refine q (v :: ws) H2 (s :: ss) g2 (by rw [List.length_cons, List.length_cons, hl]) ?_ p2
  rw [List.reverse_cons, List.reverse_cons, List.append_assoc, List.append_assoc]
  exact w2
theorem GoA.imp {ta : TA} {P P' : List SV → List Cell → Prop} (h : GoA K n ta ρ ts g P) (k : ∀ s g', P s g' → P' s g') : GoA K n ta ρ ts g P' :=
  fun I0 H0 bs σ vs H hn w Q q => h I0 H0 bs σ vs H hn w Q fun v H' s g' hl w' p => q v H' s g' hl w' (k s g' p)
theorem gs_nil {post : List D → List Cell → Prop} (p : post [] g) : GoDs K n tNil ρ ts g post := ga_nil ⟨[], rfl, p⟩
theorem gs_cons {ta : TE} {tr : TA} {post : List D → List Cell → Prop} (h : GoD K n ta ρ ts g fun d g1 => GoDs K n tr ρ (.d d :: ts) g1 fun ds g2 => post (d :: ds) g2) : GoDs K n (tCons ta tr) ρ ts g post :=
  ga_cons (GoE.imp h fun s g1 ⟨d, e, h1⟩ => by
    subst e
    exact GoA.imp h1 fun ss g2 ⟨ds, e2, p⟩ => ⟨d :: ds, by rw [e2]; rfl, p⟩)
/-- what is made of data on top, nothing written -/
theorem ge_mk {ta : TA} {te : TE} {r : List V → Hp → VK → Prop} {post : D → List Cell → Prop} (he : ∀ σ H Q, (ta σ H fun vs H1 => r vs H1 Q) → te σ H Q) (h : GoDs K n ta ρ ts g fun ds g1 => OpD K r ds fun d => post d g1) : GoD K n te ρ ts g post := by
  intro I0 H0 bs σ vs H hn w Q q
  refine he σ H Q (h I0 H0 bs σ vs H hn w _ fun ws H1 ss g1 hl w1 ⟨ds, e, p⟩ => ?_)
  subst e
  refine gr_op (n := n) (g := g1) (ρ := ρ) (ts := ts) (post := fun s g' => ∃ d, s = .d d ∧ post d g') (ds := ds) (fun I H ws e i Q q => p I H ws e i Q fun v I' H' d f i p => q v I' H' d f i ⟨d, rfl, p⟩) I0 H0 bs σ ws vs H1 hn hl w1 Q q
theorem gd_cb {ta : TA} {r : List V → Hp → VK → Prop} {post : D → List Cell → Prop} (h : GoDs K n ta ρ ts g fun ds g1 => OpD K r ds fun d => post d g1) : GoD K n (tCB r ta) ρ ts g post := ge_mk (fun _ _ _ h => h) h
theorem gd_tup {ta : TA} {post : D → List Cell → Prop} (h : GoDs K n ta ρ ts g fun ds g1 => ds.length ≤ 100000 ∧ post (.tuple ds) g1) : GoD K n (tTup ta) ρ ts g post :=
  ge_mk (r := fun xs H Q => xs.length ≤ sizeLine ∧ ∀ p, H p = none → Q (.ref p) (upd H p (.tup xs))) (fun _ _ _ h => h) (GoA.imp h fun ss g' ⟨ds, e, hz, p⟩ => ⟨ds, e, fun I H ws ex i Q q => ⟨by
    rw [i.length]; exact Evl.sz_of hz, fun a ha => q _ (upd I a (.tup ws)) _ (.tuple ds) (fr_new ex ha) (.tup (.inl (.inl upd_same)) (i.mono (fr_new ex ha).ii)) p⟩⟩)
theorem gd_lst {ta : TA} {post : D → List Cell → Prop} (h : GoDs K n ta ρ ts g fun ds g1 => ds.length ≤ 100000 ∧ post (.list ds) g1) : GoD K n (tLst ta) ρ ts g post :=
  ge_mk (r := fun xs H Q => xs.length ≤ sizeLine ∧ ∀ p, H p = none → Q (.ref p) (upd H p (.lst xs))) (fun _ _ _ h => h) (GoA.imp h fun ss g' ⟨ds, e, hz, p⟩ => ⟨ds, e, fun I H ws ex i Q q => ⟨by
    rw [i.length]; exact Evl.sz_of hz, fun a ha => q _ (upd I a (.lst ws)) _ (.list ds) (fr_new ex ha) (.lst (.inl upd_same) (i.mono (fr_new ex ha).ii)) p⟩⟩)
/-- a list of one's own, to be written -/
theorem ge_lstC {ta : TA} {post : PostE} (h : GoDs K n ta ρ ts g fun ds g1 => ds.length ≤ 100000 ∧ post (.c g1.length) (g1 ++ [some ds])) : GoE K n (tLst ta) ρ ts g post := by
  intro I0 H0 bs σ vs H hn w Q q
  refine h I0 H0 bs σ vs H hn w _ fun ws H1 ss g1 hl ⟨I, ls, w1⟩ ⟨ds, e, hz, p⟩ => ?_
  subst e
  obtain ⟨w2, r2⟩ := w1.pops hl
  have i := rels_d r2
  refine ⟨by rw [i.length]; exact Evl.sz_of hz, fun a ha => ?_⟩
  have ia : I a = none := Evl.fresh_back w2.fr.ih ha
  have h0a : H0 a = none := by
    cases z : H0 a with
    | none => rfl
    | some o => exact absurd ha (w2.fr.dm a (by rw [z]; exact fun y => nomatch y))
  have na : a ∉ bs ++ ls := fun m => w2.ce.in_ a m ha
  have hj : (bs ++ (ls ++ [a]))[g1.length]? = some a := by
    rw [← List.append_assoc, ← w2.ce.len, List.getElem?_append_right (Nat.le_refl _), Nat.sub_self]
    rfl
  have up : ∀ (j : Nat) p, (bs ++ ls)[j]? = some p → (bs ++ (ls ++ [a]))[j]? = some p := fun j p e => by
    rw [← List.append_assoc, List.getElem?_append_left (List.getElem?_eq_some_iff.mp e).1]
    exact e
  have hx : ∀ b o, H1 b = some o → upd H1 a (.lst ws) b = some o := fun b o e => by
    rw [upd_ne (ne_of_none e ha)]; exact e
  refine q (.ref a) _ (.c g1.length) _ ⟨I, ls ++ [a], ⟨⟨w2.fr.ii, fun b o e => hx b o (w2.fr.ih b o e), fun b o m e => hx b o (w2.fr.fr b o m e), fun b e => ?_, w2.fr.nw⟩, ?_, fun b m => ?_, Paired.imp (fun _ _ r => r.mono (Ex.refl I) up) w2.rs, .cons (.c hj) (Paired.imp (fun _ _ r => r.mono (Ex.refl I) up) w2.rv)⟩⟩ p
  · cases z : H1 b with
    | none => exact absurd z (w2.fr.dm b e)
    | some o => rw [hx b o z]; exact fun y => nomatch y
  · rw [← List.append_assoc]
    exact Cells.snoc ia upd_same i na (w2.ce.keep (Ex.refl I) (fun b _ o e => hx b o e) fun _ _ e => e)
  · rcases List.mem_append.mp m with m | m
    · exact w2.lo b m
    · rw [List.mem_singleton] at m
      rw [m]; exact h0a
/-! ### calls of defs -/
abbrev RSpec := List SV → List Cell → (D → List Cell → Prop) → Prop
def spOf (K : PySem.W.Frag) (R : RSpec) : Sp := fun ws H Q _ => ∃ I as ss g post, Ex I H ∧ Cells K I H as g ∧ Rels K I as (ws.map some) ss ∧ R ss g post ∧
  ∀ v I' H' d g', Fr as I H I' H' → Cells K I' H' as g' → Is K I' v d → post d g' → Q v H'
theorem rels_as {bs : List Addr} : ∀ {ws : List (Option V)} {ds : List D}, Rels K I as ws (ds.map SV.d) → Rels K I bs ws (ds.map SV.d)
  | _, [], .nil => .nil
  | _, _ :: _, .cons r t => .cons (by cases r with | d h => exact .d h) (rels_as t)
theorem gd_call {R : RSpec} {E : XK} {ta : TA} {post : D → List Cell → Prop} (h : GoDs K n ta ρ ts g fun ds g1 => R (ds.map SV.d) [] fun d _ => post d g1) : GoD K n (tCall (spOf K R) [] E ta) ρ ts g post := by
  intro I0 H0 bs σ vs H hn w Q q
  refine h I0 H0 bs σ vs H hn w _ fun ws H1 ss g1 hl ⟨I, ls, w1⟩ ⟨ds, e, p⟩ => ?_
  subst e
  obtain ⟨w2, r2⟩ := w1.pops hl
  rw [List.append_nil]
  exact ⟨I, [], ds.map SV.d, [], _, w2.fr.ih, .nil, rels_as r2, p, fun v I' H' d g' f c i p => q v H' (.d d) g1 ⟨I', ls, (w2.step f).push (.d i)⟩ ⟨d, rfl, p⟩⟩
/-- the call of a def without parameters of data that is lent one cell, its first argument -/
theorem cells_one {p : Addr} {ds : List D} {as : List Addr} {j : Nat} (c : Cells K I H as g) (h1 : as[j]? = some p) (h2 : g[j]? = some (some ds)) : Cells K I H [p] [some ds] := by
  obtain ⟨a, vs, b, i⟩ := c.at h1 h2
  exact .live a b i (fun z => nomatch z) .nil
theorem cells_back {p : Addr} {ds : List D} (f : Fr [p] I H I' H') (one : Cells K I' H' [p] [some ds]) : ∀ {as : List Addr} {g : List Cell} {j : Nat}, Cells K I H as g → as[j]? = some p → Cells K I' H' as (g.set j (some ds))
  | _, _, _, .nil, e => by simp at e
  | _, _, 0, .live a b i nn t, e => by
    simp at e
    subst e
    cases one with
    | live a' b' i' _ _ => exact .live a' b' i' nn (t.keep f.ii (fun r m o z => f.fr r o (fun y => by rw [List.mem_singleton] at y; exact ne_mem m nn y) z) (fun r m z => f.nw r (t.in_ r m) z))
  | _, _, 0, .dead b nn t, e => by
    simp at e
    subst e
    cases one with
    | live a' b' i' _ _ => exact .live a' b' i' nn (t.keep f.ii (fun r m o z => f.fr r o (fun y => by rw [List.mem_singleton] at y; exact ne_mem m nn y) z) (fun r m z => f.nw r (t.in_ r m) z))
  | p' :: as, _, j + 1, .live a b i nn t, e => by
    have e' : as[j]? = some p := by simpa using e
    have ne : p' ≠ p := (ne_mem (List.mem_of_getElem? e') nn).symm
    exact .live (f.nw p' (by rw [b]; exact fun y => nomatch y) a) (f.fr p' _ (fun y => by rw [List.mem_singleton] at y; exact ne y) b) (i.mono f.ii) nn (cells_back f one t e')
  | p' :: as, _, j + 1, .dead b nn t, e => by
    have e' : as[j]? = some p := by simpa using e
    exact .dead (f.dm p' b) nn (cells_back f one t e')
theorem gd_callB {R : RSpec} {E : XK} {ta : TA} {post : D → List Cell → Prop}
    (h : GoA K n ta ρ ts g fun ss g1 => ∃ (j : Nat) (ds b : List D), ss = .c j :: ds.map SV.d ∧ g1[j]? = some (some b) ∧ R (.c 0 :: ds.map SV.d) [some b] fun d gb => ∃ b', gb = [some b'] ∧ post d (g1.set j (some b'))) : GoD K n (tCall (spOf K R) [] E ta) ρ ts g post := by
  intro I0 H0 bs σ vs H hn w Q q
  refine h I0 H0 bs σ vs H hn w _ fun ws H1 ss g1 hl ⟨I, ls, w1⟩ ⟨j, ds, b, e, hj, pR⟩ => ?_
  subst e
  obtain ⟨w2, r2⟩ := w1.pops hl
  rw [List.append_nil]
  cases ws with
  | nil => cases hl
  | cons v0 ws =>
    cases r2 with
    | cons r0 rt =>
      cases r0 with
      | @c p _ hp =>
        refine ⟨I, [p], .c 0 :: ds.map SV.d, [some b], _, w2.fr.ih, cells_one w2.ce hp hj,   .cons (.c rfl) (rels_as rt), pR, fun v I' H' d g' f c i ⟨b', e, pp⟩ => ?_⟩
        subst e
        have hm : p ∈ bs ++ ls := List.mem_of_getElem? hp
        refine q v H' (.d d) _ ⟨I', ls, ?_⟩ ⟨d, rfl, pp⟩
        refine ⟨⟨w2.fr.ii.trans f.ii, f.ih, fun a o na e => f.fr a o (fun y => ?_) (w2.fr.fr a o na e), fun a e => f.dm a (w2.fr.dm a e), fun a e z => f.nw a (w2.fr.dm a e) (w2.fr.nw a e z)⟩, cells_back f c w2.ce hp, w2.lo, w2.rs.mono f.ii, .cons (.d i) (w2.rv.mono f.ii)⟩
        rw [List.mem_singleton] at y
        subst y
        rcases List.mem_append.mp hm with m | m
        · exact na m
        · rw [w2.lo a m] at e; cases e
end
end Go
namespace Go
open PySem L2
open Evl (Ex)
section
variable {K : PySem.W.Frag} {I0 H0 I I' H H' : Hp} {bs ls as : List Addr} {ρ ts : List SV} {g : List Cell} {σ : L2.St} {vs : List V} {n : Nat}
theorem rels_of : ∀ {ws : List V} {ds : List D}, IsAll K I ws ds → Rels K I as (ws.map some) (ds.map SV.d)
  | _, _, .nil => .nil
  | _, _, .cons h t => .cons (.d h) (rels_of t)
/-! ### targets -/
def GoG (K : PySem.W.Frag) (n : Nat) (gt : TG) (d : D) (ρ ts : List SV) (g : List Cell) (post : List SV → Prop) : Prop :=
  ∀ I0 H0 bs σ vs v H, bs.length = n → World K I0 H0 bs ρ (.d d :: ts) g σ (v :: vs) H → ∀ Q : L2.St → Hp → Prop, (∀ σ' ρ' H', World K I0 H0 bs ρ' ts g σ' vs H' → post ρ' → Q σ' H') → gt v σ H Q
def GoGs (K : PySem.W.Frag) (n : Nat) (gt : TGs) (ds : List D) (ρ ts : List SV) (g : List Cell) (post : List SV → Prop) : Prop :=
  ∀ I0 H0 bs σ vs xs H, bs.length = n → xs.length = ds.length → World K I0 H0 bs ρ (ds.map SV.d ++ ts) g σ (xs ++ vs) H → ∀ Q : L2.St → Hp → Prop, (∀ σ' ρ' H', World K I0 H0 bs ρ' ts g σ' vs H' → post ρ' → Q σ' H') → gt xs σ H Q
theorem gg_name {j : Nat} {d : D} {post : List SV → Prop} (p : post (ρ.set j (.d d))) : GoG K n (gName j) d ρ ts g post := by
  intro I0 H0 bs σ vs v H hn ⟨I, ls, w⟩ Q q
  obtain ⟨w1, r⟩ := w.pop
  exact q _ _ H ⟨I, ls, ⟨w1.fr, w1.ce, w1.lo, Paired.set r j w1.rs, w1.rv⟩⟩ p
theorem ggs_nil {post : List SV → Prop} (p : post ρ) : GoGs K n gNil [] ρ ts g post := by
  intro I0 H0 bs σ vs xs H hn hl w Q q
  cases xs with
  | nil => exact ⟨rfl, q σ ρ H w p⟩
  | cons _ _ => cases hl
theorem ggs_cons {t : TG} {u : TGs} {d : D} {ds : List D} {post : List SV → Prop} (h : GoG K n t d ρ (ds.map SV.d ++ ts) g fun ρ' => GoGs K n u ds ρ' ts g post) : GoGs K n (gCons t u) (d :: ds) ρ ts g post := by
  intro I0 H0 bs σ vs xs H hn hl w Q q
  cases xs with
  | nil => cases hl
  | cons x xs =>
    refine ⟨x, xs, rfl, h I0 H0 bs σ (xs ++ vs) x H hn w _ fun σ' ρ' H' w' p => ?_⟩
    exact p I0 H0 bs σ' vs xs H' hn (Nat.succ.inj hl) w' Q q
theorem gg_tup {m : Nat} {t : TGs} {ds : List D} {post : List SV → Prop} (hm : ds.length = m) (h : GoGs K n t ds ρ ts g post) : GoG K n (gTup K m t) (.tuple ds) ρ ts g post := by
  intro I0 H0 bs σ vs v H hn ⟨I, ls, w⟩ Q q
  obtain ⟨w1, r⟩ := w.pop
  cases r with
  | d i =>
    cases i with
    | @tup a xs _ hs ha =>
      refine ⟨a, xs, rfl, Evl.ex_t w1.fr.ih hs, ha.length.trans hm, h I0 H0 bs σ vs xs H hn ha.length ⟨I, ls, ⟨w1.fr, w1.ce, w1.lo, w1.rs, ?_⟩⟩ Q q⟩
      unfold Rels
      rw [List.map_append]
      exact Paired.app (rels_of ha) w1.rv
/-- the targets are among js -/
def InJs (js : List Nat) (gt : TG) : Prop := ∀ v σ H Q, gt v σ H Q → gt v σ H fun σ2 H2 => Q σ2 H2 ∧ wipe σ2 js = wipe σ js
def InJss (js : List Nat) (gt : TGs) : Prop := ∀ v σ H Q, gt v σ H Q → gt v σ H fun σ2 H2 => Q σ2 H2 ∧ wipe σ2 js = wipe σ js
theorem wipe_get : ∀ (js : List Nat) (σ : L2.St) (i : Nat), (wipe σ js)[i]? = if i ∈ js then (σ[i]?).map (fun _ => none) else σ[i]?
  | [], σ, i => by simp [wipe]
  | j :: js, σ, i => by
    unfold wipe
    rw [List.getElem?_set]
    by_cases h : j = i
    · subst h
      rw [if_pos rfl, if_pos (List.mem_cons_self), wipe_length]
      by_cases hl : j < σ.length
      · rw [if_pos hl, List.getElem?_eq_getElem hl]; rfl
      · rw [if_neg hl, List.getElem?_eq_none (by omega)]; rfl
    · rw [if_neg h, wipe_get js σ i]
      by_cases hm : i ∈ js
      · rw [if_pos hm, if_pos (List.mem_cons_of_mem _ hm)]
      · rw [if_neg hm, if_neg (fun z => by
          rcases List.mem_cons.mp z with z | z
          · exact h z.symm
          · exact hm z)]
theorem wipe_set {js : List Nat} {σ : L2.St} {j : Nat} {x : Option V} (h : j ∈ js) : wipe (σ.set j x) js = wipe σ js := by
  apply List.ext_getElem?
  intro i
  rw [wipe_get, wipe_get]
  by_cases hm : i ∈ js
  · rw [if_pos hm, if_pos hm, List.getElem?_set]
    by_cases hj : j = i
    · subst hj
      rw [if_pos rfl]
      by_cases hl : j < σ.length
      · rw [if_pos hl, List.getElem?_eq_getElem hl]; rfl
      · rw [if_neg hl, List.getElem?_eq_none (by omega)]
    · rw [if_neg hj]
  · rw [if_neg hm, if_neg hm, List.getElem?_set, if_neg (fun z : j = i => hm (by rw [← z]; exact h))]
theorem wipe_wipe (js : List Nat) (σ : L2.St) : wipe (wipe σ js) js = wipe σ js := by
  apply List.ext_getElem?
  intro i
  rw [wipe_get, wipe_get]
  by_cases hm : i ∈ js
  · rw [if_pos hm, if_pos hm, Option.map_map]; rfl
  · rw [if_neg hm, if_neg hm]
theorem ij_name {js : List Nat} {j : Nat} (h : j ∈ js) : InJs js (gName j) := fun v σ H Q q => ⟨q, wipe_set h⟩
theorem ij_nil {js : List Nat} : InJss js gNil := fun v σ H Q ⟨e, q⟩ => ⟨e, q, rfl⟩
/-- a reading of targets asks no more of a weaker end -/
def MonG (gt : TG) : Prop := ∀ v σ H (Q Q' : L2.St → Hp → Prop), (∀ σ H, Q σ H → Q' σ H) → gt v σ H Q → gt v σ H Q'
def MonGs (gt : TGs) : Prop := ∀ v σ H (Q Q' : L2.St → Hp → Prop), (∀ σ H, Q σ H → Q' σ H) → gt v σ H Q → gt v σ H Q'
theorem mg_name {j : Nat} : MonG (gName j) := fun v σ H Q Q' k q => k _ _ q
theorem mg_nil : MonGs gNil := fun v σ H Q Q' k ⟨e, q⟩ => ⟨e, k _ _ q⟩
theorem mg_cons {t : TG} {u : TGs} (h : MonG t) (k : MonGs u) : MonGs (gCons t u) := fun vs σ H Q Q' f ⟨v, r, e, q⟩ => ⟨v, r, e, h v σ H _ _ (fun σ' H' q' => k r σ' H' _ _ f q') q⟩
theorem mg_tup {m : Nat} {t : TGs} (h : MonGs t) : MonG (gTup K m t) := fun v σ H Q Q' f ⟨a, xs, e, s, l, q⟩ => ⟨a, xs, e, s, l, h xs σ H _ _ f q⟩
theorem ij_cons {js : List Nat} {t : TG} {u : TGs} (mt : MonG t) (h : InJs js t) (k : InJss js u) : InJss js (gCons t u) := fun vs σ H Q ⟨v, r, e, q⟩ => by
  refine ⟨v, r, e, ?_⟩
  have q1 := h v σ H _ q
  refine mt v σ H _ _ (fun σ' H' q' => ?_) q1
  obtain ⟨q2, e2⟩ := q'
  have q3 := k r σ' H' Q q2
  rw [e2] at q3
  exact q3
theorem ij_tup {js : List Nat} {m : Nat} {t : TGs} (h : InJss js t) : InJs js (gTup K m t) := fun v σ H Q ⟨a, xs, e, s, l, q⟩ => ⟨a, xs, e, s, l, h xs σ H Q q⟩
/-! ### what is walked -/
structure Walks (K : PySem.W.Frag) (I : Hp) (J : It) (items : List D) : Prop where
  go : ∀ i I2 H2, Ex I I2 → Ex I2 H2 → i < items.length → J.go i H2
  stop : ∀ I2 H2, Ex I I2 → Ex I2 H2 → J.stop items.length H2
  yld : ∀ i d I2 H2 x H', Ex I I2 → Ex I2 H2 → items[i]? = some d → J.yld i H2 x H' → ∃ I', Fr [] I2 H2 I' H' ∧ Is K I' x d
def GoI (K : PySem.W.Frag) (n : Nat) (wi : TI) (ρ ts : List SV) (g : List Cell) (post : List D → List Cell → Prop) : Prop :=
  ∀ I0 H0 bs σ vs H, bs.length = n → World K I0 H0 bs ρ ts g σ vs H → ∀ R : It → Hp → Prop, (∀ J H1 g1 items I ls, Wd K I0 H0 bs ls ρ ts g1 σ vs I H1 → Walks K I J items → post items g1 → R J H1) → wi σ H R
theorem gi_list {tl : TE} {post : List D → List Cell → Prop} (h : GoD K n tl ρ ts g fun d g1 => ∃ ds, d = .list ds ∧ post ds g1) : GoI K n (iList K tl) ρ ts g post := by
  intro I0 H0 bs σ vs H hn w R q
  refine h I0 H0 bs σ vs H hn w _ fun v H1 s g1 ⟨I, ls, w1⟩ ⟨d, e, ds, e2, p⟩ => ?_
  subst e e2
  obtain ⟨w2, r⟩ := w1.pop
  cases r with
  | d i =>
    cases i with
    | @lst a xs _ hs ha =>
      have wk := walk_list (K := K) (a := a) (xs := xs)
      have sq : ∀ I2 H2, Ex I I2 → Ex I2 H2 → SqL K H2 a xs := fun I2 H2 e1 e2 => .inl (Evl.ex_rd e2 (Evl.ex_rd e1 hs))
      refine ⟨a, rfl, ⟨xs, .inl (Evl.ex_rd w2.fr.ih hs)⟩, q _ H1 g1 ds I ls w2 ⟨fun i I2 H2 e1 e2 hi => wk.goes i H2 (by rw [ha.length]; exact hi) (sq I2 H2 e1 e2), fun I2 H2 e1 e2 => ?_, fun i d I2 H2 x H' e1 e2 hi y => ?_⟩ p⟩
      · have := wk.stops H2 (sq I2 H2 e1 e2)
        rw [ha.length] at this
        exact this
      · have hlt : i < xs.length := by rw [ha.length]; exact (List.getElem?_eq_some_iff.mp hi).1
        obtain ⟨rfl, hx⟩ := wk.yields i H2 x H' hlt (sq I2 H2 e1 e2) y
        obtain ⟨v, hv, iv⟩ := (ha.mono e1).get hi
        rw [hv] at hx
        cases hx
        exact ⟨I2, Fr.refl e2, iv⟩
theorem gi_tup {tl : TE} {post : List D → List Cell → Prop} (h : GoD K n tl ρ ts g fun d g1 => ∃ ds, d = .tuple ds ∧ post ds g1) : GoI K n (iTup K tl) ρ ts g post := by
  intro I0 H0 bs σ vs H hn w R q
  refine h I0 H0 bs σ vs H hn w _ fun v H1 s g1 ⟨I, ls, w1⟩ ⟨d, e, ds, e2, p⟩ => ?_
  subst e e2
  obtain ⟨w2, r⟩ := w1.pop
  cases r with
  | d i =>
    cases i with
    | @tup a xs _ hs ha =>
      have wk := walk_tup (K := K) (a := a) (xs := xs)
      have sq : ∀ I2 H2, Ex I I2 → Ex I2 H2 → SqT K H2 a xs := fun I2 H2 e1 e2 => Evl.ex_t e2 (Evl.ex_t e1 hs)
      refine ⟨a, rfl, ⟨xs, Evl.ex_t w2.fr.ih hs⟩, q _ H1 g1 ds I ls w2 ⟨fun i I2 H2 e1 e2 hi => wk.goes i H2 (by rw [ha.length]; exact hi) (sq I2 H2 e1 e2), fun I2 H2 e1 e2 => ?_, fun i d I2 H2 x H' e1 e2 hi y => ?_⟩ p⟩
      · have := wk.stops H2 (sq I2 H2 e1 e2)
        rw [ha.length] at this
        exact this
      · have hlt : i < xs.length := by rw [ha.length]; exact (List.getElem?_eq_some_iff.mp hi).1
        obtain ⟨rfl, hx⟩ := wk.yields i H2 x H' hlt (sq I2 H2 e1 e2) y
        obtain ⟨v, hv, iv⟩ := (ha.mono e1).get hi
        rw [hv] at hx
        cases hx
        exact ⟨I2, Fr.refl e2, iv⟩
def rngD (lo : Int) (n : Nat) : List D := (List.range n).map fun i => .int (lo + (i : Nat))
theorem rngD_len {lo : Int} {n : Nat} : (rngD lo n).length = n := by unfold rngD; rw [List.length_map, List.length_range]
theorem rngD_get {lo : Int} {n i : Nat} (h : i < n) : (rngD lo n)[i]? = some (.int (lo + (i : Nat))) := by
  unfold rngD
  rw [List.getElem?_map, List.getElem?_range h]
  rfl
theorem walks_range {lo : Int} {m : Nat} : Walks K I (Itr lo m) (rngD lo m) := by
  have wk := walk_range (lo := lo) (n := m)
  refine ⟨fun i I2 H2 e1 e2 hi => wk.goes i H2 (by rw [rngD_len] at hi; exact hi) trivial, fun I2 H2 e1 e2 => ?_, fun i d I2 H2 x H' e1 e2 hi y => ?_⟩
  · rw [rngD_len]; exact wk.stops H2 trivial
  · have hlt : i < m := by
      have := (List.getElem?_eq_some_iff.mp hi).1
      rw [rngD_len] at this
      exact this
    obtain ⟨rfl, rfl⟩ := wk.yields i H2 x H' hlt trivial y
    rw [rngD_get hlt] at hi
    cases hi
    exact ⟨I2, Fr.refl e2, .int _⟩
theorem gi_rng1 {ta : TA} {post : List D → List Cell → Prop} (h : GoDs K n ta ρ ts g fun ds g1 => ∃ j : Int, ds = [.int j] ∧ -1000000 ≤ j ∧ j ≤ 1000000 ∧ post (rngD 0 j.toNat) g1) : GoI K n (iRng1 ta) ρ ts g post := by
  intro I0 H0 bs σ vs H hn w R q
  refine h I0 H0 bs σ vs H hn w _ fun ws H1 ss g1 hl ⟨I, ls, w1⟩ ⟨ds, e, j, e2, h1, h2, p⟩ => ?_
  subst e e2
  obtain ⟨w2, r⟩ := w1.pops hl
  have i := rels_d r
  cases i with
  | cons i t =>
    cases t
    cases i
    exact ⟨j, rfl, by omega, by omega, q _ H1 g1 _ I ls w2 walks_range p⟩
theorem gi_rng2 {ta : TA} {post : List D → List Cell → Prop} (h : GoDs K n ta ρ ts g fun ds g1 => ∃ i j : Int, ds = [.int i, .int j] ∧ -1000000 ≤ i ∧ i ≤ 1000000 ∧ -1000000 ≤ j ∧ j ≤ 1000000 ∧ post (rngD i (j - i).toNat) g1) : GoI K n (iRng2 ta) ρ ts g post := by
  intro I0 H0 bs σ vs H hn w R q
  refine h I0 H0 bs σ vs H hn w _ fun ws H1 ss g1 hl ⟨I, ls, w1⟩ ⟨ds, e, i, j, e2, h1, h2, h3, h4, p⟩ => ?_
  subst e e2
  obtain ⟨w2, r⟩ := w1.pops hl
  have i := rels_d r
  cases i with
  | cons i t =>
    cases t with
    | cons i2 t =>
      cases t
      cases i
      cases i2
      exact ⟨_, j, rfl, ⟨by omega, by omega, by omega, by omega⟩, q _ H1 g1 _ I ls w2 walks_range p⟩
/-- what a block that was lent all cells leaves -/
theorem Fr.deep (a : Fr bs I0 H0 I H) (lo : ∀ p ∈ ls, H0 p = none) (f : Fr (bs ++ ls) I H I' H') : Fr bs I0 H0 I' H' :=
  ⟨a.ii.trans f.ii, f.ih, fun p o m e => f.fr p o (fun y => by
    rcases List.mem_append.mp y with y | y
    · exact m y
    · rw [lo p y] at e; cases e) (a.fr p o m e), fun p e => f.dm p (a.dm p e), fun p e z => f.nw p (a.dm p e) (a.nw p e z)⟩
theorem rels_wipe {js : List Nat} : ∀ {o : L2.St} {ss : List SV}, Rels K I as o ss → ∀ k, Rels K I as (o.set k none) (ss.set k .no)
  | _, _, .nil, _ => .nil
  | _, _, .cons _ t, 0 => .cons .no t
  | _, _, .cons r t, k + 1 => .cons r (rels_wipe (js := js) t k)
def wipeS (ρ : List SV) : List Nat → List SV
  | [] => ρ
  | j :: js => (wipeS ρ js).set j .no
theorem rels_wipes {o : L2.St} {ss : List SV} (r : Rels K I as o ss) : ∀ js, Rels K I as (wipe o js) (wipeS ss js)
  | [] => r
  | j :: js => rels_wipe (js := js) (rels_wipes r js) j
/-- one is frozen that nobody else holds -/
theorem Wd.freeze {p : Addr} {xs : List V} (w : Wd K I0 H0 bs ls ρ ts g σ vs I H) (h0 : H0 p = none) (np : p ∉ bs ++ ls) (ip : I p = none) (hp : H p = some (.lst xs)) : Wd K I0 H0 bs ls ρ ts g σ vs (upd I p (.lst xs)) H := by
  have ex : Ex I (upd I p (.lst xs)) := Ex.new ip
  refine ⟨⟨w.fr.ii.trans ex, fun a o e => ?_, w.fr.fr, w.fr.dm, fun a e z => ?_⟩, w.ce.keep ex (fun _ _ _ e => e) (fun a m e => by rw [upd_ne (ne_mem m np)]; exact e), w.lo, w.rs.mono ex, w.rv.mono ex⟩
  · by_cases y : a = p
    · subst y; rw [upd_same] at e; rw [hp]; exact e
    · rw [upd_ne y] at e; exact w.fr.ih a o e
  · rw [upd_ne (fun y : a = p => e (by rw [y]; exact h0))]; exact w.fr.nw a e z
/-- [elt for target in iter if test]: Iv tells what is made so far -/
theorem gd_lc {wi : TI} {gt : TG} {tt : TT} {te : TE} {js : List Nat} {post : D → List Cell → Prop} (hm : MonG gt) (hj : InJs js gt)
    (h : GoI K n wi ρ ts g fun items g1 => items.length ≤ 50000 ∧ ∃ Iv : Nat → List D → List Cell → Prop, Iv 0 [] g1 ∧
      (∀ i d acc g2, items[i]? = some d → Iv i acc g2 → GoG K g2.length gt d (wipeS ρ js) ts g2 fun ρ' => GoT K g2.length tt ρ' ts g2 fun b g3 =>
        (b = true → GoD K g2.length te ρ' ts g3 fun e g4 => g4.length = g2.length ∧ Iv (i + 1) (acc ++ [e]) g4) ∧ (b = false → g3.length = g2.length ∧ Iv (i + 1) acc g3)) ∧
      (∀ acc g2, Iv items.length acc g2 → post (.list acc) g2)) : GoD K n (tLc wi gt tt te js) ρ ts g post := by
  intro I0 H0 bs σ vs H hn w Q q
  refine h I0 H0 bs σ vs H hn w _ fun J H1 g1 items I1 ls w1 wk ⟨hz, Iv, iv0, step, fin⟩ Dl hD => ?_
  have h0 : H0 Dl = none := by
    cases z : H0 Dl with
    | none => rfl
    | some o => exact absurd hD (w1.fr.dm Dl (by rw [z]; exact fun y => nomatch y))
  have nD : Dl ∉ bs ++ ls := fun m => w1.ce.in_ Dl m hD
  have i1D : I1 Dl = none := Evl.fresh_back w1.fr.ih hD
  refine ⟨fun i m H => ∃ I acc accV g, i + m = items.length ∧ Wd K I0 H0 bs ls ρ ts g σ vs I H ∧ Ex I1 I ∧ I Dl = none ∧ H Dl = some (.lst accV) ∧ IsAll K I accV acc ∧ acc.length ≤ i ∧ Iv i acc g, ⟨items.length, I1, [], [], g1, by omega, ?_, Ex.refl I1, i1D, upd_same, .nil, Nat.le_refl _, iv0⟩, fun i m H2 hW => ?_⟩
  · have hx : ∀ b o, H1 b = some o → upd H1 Dl (.lst []) b = some o := fun b o e => by rw [upd_ne (ne_of_none e hD)]; exact e
    refine ⟨⟨w1.fr.ii, fun b o e => hx b o (w1.fr.ih b o e), fun b o m e => hx b o (w1.fr.fr b o m e), fun b e => ?_, w1.fr.nw⟩, w1.ce.keep (Ex.refl I1) (fun b _ o e => hx b o e) (fun _ _ e => e), w1.lo, w1.rs, w1.rv⟩
    cases z : H1 b with
    | none => exact absurd z (w1.fr.dm b e)
    | some o => rw [hx b o z]; exact fun y => nomatch y
  · obtain ⟨I, acc, accV, g2, em, wd, exI, iD, hDl, ia, hacc, iv⟩ := hW
    by_cases hi : i < items.length
    · refine .inr ⟨wk.go i I H2 exI wd.fr.ih hi, fun H' => ∃ I acc accV g, Wd K I0 H0 bs ls ρ ts g σ vs I H' ∧ Ex I1 I ∧ I Dl = none ∧ H' Dl = some (.lst accV) ∧ IsAll K I accV acc ∧ acc.length ≤ i + 1 ∧ Iv (i + 1) acc g, fun H' ⟨I', acc', accV', g', a, b, c, d, e, f, k⟩ => ⟨m - 1, by omega, I', acc', accV', g', by omega, a, b, c, d, e, f, k⟩, fun x H3 hy => ?_⟩
      have hdi : items[i]? = some items[i] := List.getElem?_eq_getElem hi
      obtain ⟨I3, f3, ix⟩ := wk.yld i _ I H2 x H3 exI wd.fr.ih hdi hy
      have wd3 := (wd.step f3)
      have hD3 : H3 Dl = some (.lst accV) := f3.fr Dl _ (fun z => nomatch z) hDl
      have iD3 : I3 Dl = none := f3.nw Dl (by rw [hDl]; exact fun y => nomatch y) iD
      have len2 : (bs ++ ls).length = g2.length := wd3.ce.len
      -- the block's own world
      have wB : World K I3 H3 (bs ++ ls) (wipeS ρ js) (.d items[i] :: ts) g2 (wipe σ js) (x :: vs) H3 := by
        refine ⟨I3, [], Wd.mk (Fr.refl wd3.fr.ih) ?_ (fun _ z => nomatch z) ?_ ?_⟩
        · rw [List.append_nil]; exact wd3.ce
        · rw [List.append_nil]; exact rels_wipes wd3.rs js
        · rw [List.append_nil]; exact .cons (.d ix) wd3.rv
      -- what the block leaves, seen from outside
      have back : ∀ ρ' σ' H' g' ts' vs', World K I3 H3 (bs ++ ls) ρ' ts' g' σ' vs' H' → g'.length = g2.length → ∃ I', Wd K I0 H0 bs ls ρ ts g' σ vs I' H' ∧ Ex I3 I' ∧ I' Dl = none ∧ H' Dl = some (.lst accV) ∧ Rels K I' (bs ++ ls) (vs'.map some) ts' := by
        intro ρ' σ' H' g' ts' vs' ⟨I', ls', w'⟩ hl
        have : ls' = [] := by
          have e := w'.ce.len
          rw [List.length_append, hl, len2] at e
          exact List.length_eq_zero_iff.mp (by omega)
        subst this
        have ce := w'.ce
        have rv := w'.rv
        rw [List.append_nil] at ce rv
        exact ⟨I', ⟨wd3.fr.deep wd3.lo w'.fr, ce, wd3.lo, wd3.rs.mono w'.fr.ii, wd3.rv.mono w'.fr.ii⟩, w'.fr.ii, w'.fr.nw Dl (by rw [hD3]; exact fun y => nomatch y) iD3, w'.fr.fr Dl _ nD hD3, rv⟩
      have st := step i _ acc g2 hdi iv
      have gG := st I3 H3 (bs ++ ls) (wipe σ js) vs x H3 len2 wB (fun σ2 H4 => tt σ2 H4 fun b H5 => if b = true then te σ2 H5 fun y H6 => ∃ acc, H6 Dl = some (.lst acc) ∧ acc.length < sizeLine ∧ (∃ I acc2 accV g, Wd K I0 H0 bs ls ρ ts g σ vs I (upd H6 Dl (.lst (acc ++ [y]))) ∧ Ex I1 I ∧ I Dl = none ∧ (upd H6 Dl (.lst (acc ++ [y]))) Dl = some (.lst accV) ∧ IsAll K I accV acc2 ∧ acc2.length ≤ i + 1 ∧ Iv (i + 1) acc2 g) else (∃ I acc accV g, Wd K I0 H0 bs ls ρ ts g σ vs I H5 ∧ Ex I1 I ∧ I Dl = none ∧ H5 Dl = some (.lst accV) ∧ IsAll K I accV acc ∧ acc.length ≤ i + 1 ∧ Iv (i + 1) acc g)) fun σ2 ρ2 H4 w4 gT => ?_
      · refine hm x _ H3 _ _ (fun σ2 H4 q4 => ?_) (hj x _ H3 _ gG)
        obtain ⟨q4, e4⟩ := q4
        rw [wipe_wipe] at e4
        exact ⟨e4, q4⟩
      · refine gT I3 H3 (bs ++ ls) σ2 vs H4 len2 w4 _ fun b H5 g5 w5 ⟨pt, pf⟩ => ?_
        cases b with
        | true =>
          rw [if_pos rfl]
          refine pt rfl I3 H3 (bs ++ ls) σ2 vs H5 len2 w5 _ fun y H6 s g6 w6 ⟨e, es, hl6, iv6⟩ => ?_
          subst es
          obtain ⟨I6, wd6, ex6, i6D, h6D, rv6⟩ := back _ _ _ _ _ _ w6 hl6
          cases rv6 with
          | cons ry _ =>
            cases ry with
            | d iy =>
              have exx : Ex I1 I6 := (exI.trans f3.ii).trans ex6
              refine ⟨accV, h6D, by rw [ia.length]; exact Evl.sz_lt (by omega), I6, acc ++ [e], accV ++ [y], g6, ?_, exx, i6D, upd_same, ((ia.mono f3.ii).mono ex6).append (.one iy), by rw [List.length_append]; show acc.length + 1 ≤ i + 1; omega, iv6⟩
              have hx : ∀ b o, b ≠ Dl → H6 b = some o → upd H6 Dl (.lst (accV ++ [y])) b = some o := fun b o nb e => by rw [upd_ne nb]; exact e
              refine ⟨⟨wd6.fr.ii, fun b o e => hx b o (fun z => by rw [z, i6D] at e; cases e) (wd6.fr.ih b o e), fun b o m e => hx b o (fun z => by rw [z, h0] at e; cases e) (wd6.fr.fr b o m e), fun b e => ?_, wd6.fr.nw⟩, wd6.ce.keep (Ex.refl I6) (fun b m o e => hx b o (ne_mem m nD) e) (fun _ _ e => e), wd6.lo, wd6.rs, wd6.rv⟩
              cases z : H6 b with
              | none => exact absurd z (wd6.fr.dm b e)
              | some o => rw [hx b o (fun y : b = Dl => e (by rw [y]; exact h0)) z]; exact fun y => nomatch y
        | false =>
          rw [if_neg Bool.false_ne_true]
          obtain ⟨hl5, iv5⟩ := pf rfl
          obtain ⟨I6, wd6, ex6, i6D, h6D, _⟩ := back _ _ _ _ _ _ w5 hl5
          exact ⟨I6, acc, accV, g5, wd6, (exI.trans f3.ii).trans ex6, i6D, h6D, (ia.mono f3.ii).mono ex6, by omega, iv5⟩
    · have e : i = items.length := by omega
      subst e
      refine .inl ⟨wk.stop I H2 exI wd.fr.ih, ?_⟩
      refine q (.ref Dl) H2 (.d (.list acc)) g2 ⟨upd I Dl (.lst accV), ls, (wd.freeze h0 nD iD hDl).push (.d (.lst (.inl upd_same) (ia.mono (Ex.new iD))))⟩ ⟨_, rfl, fin acc g2 iv⟩
end
end Go
namespace Go
open PySem PySem.Spec PyProof.Rows L2
open Evl (Ex)
section
variable {K : PySem.W.Frag} {I0 H0 I I' H H' : Hp} {bs ls as : List Addr} {ρ ts : List SV} {g : List Cell} {σ : L2.St} {vs : List V} {n : Nat} {κ : Ks}
theorem Meets.nx' {E : Ends} (m : Meets K I0 H0 bs κ E) {N : L2.St → Hp → Prop} {P : List SV → List Cell → Prop} (h : ∀ σ H ρ g, World K I0 H0 bs ρ [] g σ [] H → P ρ g → N σ H) : Meets K I0 H0 bs { κ with nx := P } { E with nx := N } := ⟨h, m.rt, m.bk, m.ct⟩
theorem gs_seq {t u : TS} (h : GoS K n t ρ g { κ with nx := fun ρ' g' => GoS K n u ρ' g' κ }) : GoS K n (tSeq t u) ρ g κ :=
  fun I0 H0 bs σ H E hn w m => h I0 H0 bs σ H _ hn w (m.nx' fun σ' H' ρ' g' w' p => p I0 H0 bs σ' H' E hn w' m)
theorem gs_next (h : κ.nx ρ g) : GoS K n tNext ρ g κ := fun I0 H0 bs σ H E hn w m => m.nx σ H ρ g w h
theorem gs_cont (h : κ.ct ρ g) : GoS K n tCont ρ g κ := fun I0 H0 bs σ H E hn w m => m.ct σ H ρ g w h
theorem gs_break (h : κ.bk ρ g) : GoS K n tBreak ρ g κ := fun I0 H0 bs σ H E hn w m => m.bk σ H ρ g w h
theorem gs_asg {te : TE} {i : Nat} (h : GoE K n te ρ [] g fun s g' => κ.nx (ρ.set i s) g') : GoS K n (tAsg te (gName i)) ρ g κ := by
  intro I0 H0 bs σ H E hn w m
  refine h I0 H0 bs σ [] H hn w _ fun v H1 s g1 ⟨I, ls, w1⟩ p => ?_
  obtain ⟨w2, r⟩ := w1.pop
  exact m.nx _ H1 _ g1 ⟨I, ls, ⟨w2.fr, w2.ce, w2.lo, Paired.set r i w2.rs, w2.rv⟩⟩ p
theorem gs_asgD {te : TE} {i : Nat} (h : GoD K n te ρ [] g fun d g' => κ.nx (ρ.set i (.d d)) g') : GoS K n (tAsg te (gName i)) ρ g κ := gs_asg (GoE.imp h fun s g' ⟨d, e, p⟩ => by rw [e]; exact p)
theorem gs_asgG {te : TE} {gt : TG} (h : GoD K n te ρ [] g fun d g' => GoG K n gt d ρ [] g' fun ρ' => κ.nx ρ' g') : GoS K n (tAsg te gt) ρ g κ := by
  intro I0 H0 bs σ H E hn w m
  refine h I0 H0 bs σ [] H hn w _ fun v H1 s g1 w1 ⟨d, e, p⟩ => ?_
  subst e
  exact p I0 H0 bs σ [] v H1 hn w1 _ fun σ' ρ' H' w' p' => m.nx σ' H' ρ' g1 w' p'
theorem gs_if {c : TT} {t u : TS} (h : GoT K n c ρ [] g fun b g1 => (b = true → GoS K n t ρ g1 κ) ∧ (b = false → GoS K n u ρ g1 κ)) : GoS K n (tIfS c t u) ρ g κ := by
  intro I0 H0 bs σ H E hn w m
  refine h I0 H0 bs σ [] H hn w _ fun b H1 g1 w1 ⟨p, p'⟩ => ?_
  cases b with
  | true => rw [if_pos rfl]; exact p rfl I0 H0 bs σ H1 E hn w1 m
  | false => rw [if_neg Bool.false_ne_true]; exact p' rfl I0 H0 bs σ H1 E hn w1 m
theorem gs_retE {te : TE} (h : GoE K n te ρ [] g κ.rt) : GoS K n (tRet te) ρ g κ := by
  intro I0 H0 bs σ H E hn w m
  exact h I0 H0 bs σ [] H hn w _ fun v H1 s g1 w1 p => m.rt v σ H1 ρ s g1 w1 p
theorem gs_ret {te : TE} (h : GoD K n te ρ [] g fun d g' => κ.rt (.d d) g') : GoS K n (tRet te) ρ g κ := gs_retE (GoE.imp h fun s g' ⟨d, e, p⟩ => by rw [e]; exact p)
theorem gs_drop {te : TE} (h : GoE K n te ρ [] g fun _ g' => κ.nx ρ g') : GoS K n (tDrop te) ρ g κ := by
  intro I0 H0 bs σ H E hn w m
  refine h I0 H0 bs σ [] H hn w _ fun v H1 s g1 ⟨I, ls, w1⟩ p => m.nx σ H1 ρ g1 ⟨I, ls, w1.pop.1⟩ p
/-- a local cell is given up: from now on it is data -/
theorem Wd.give {j : Nat} {p : Addr} {ds : List D} (w : Wd K I0 H0 bs ls ρ ts g σ vs I H) (hn : bs.length ≤ j) (hp : (bs ++ ls)[j]? = some p) (hg : g[j]? = some (some ds)) : ∃ I', Wd K I0 H0 bs ls ρ ts (g.set j none) σ vs I' H ∧ Is K I' (.ref p) (.list ds) := by
  obtain ⟨ip, xs, hx, ia⟩ := w.ce.at hp hg
  have pl : p ∈ ls := by
    rw [List.getElem?_append_right hn] at hp
    exact List.mem_of_getElem? hp
  have h0 := w.lo p pl
  have ex : Ex I (upd I p (.lst xs)) := Ex.new ip
  refine ⟨upd I p (.lst xs), ⟨⟨w.fr.ii.trans ex, fun a o e => ?_, w.fr.fr, w.fr.dm, fun a e z => ?_⟩, w.ce.give ex (fun a na e => by rw [upd_ne na]; exact e) hp, w.lo, w.rs.mono ex, w.rv.mono ex⟩, .lst (.inl upd_same) (ia.mono ex)⟩
  · by_cases y : a = p
    · subst y; rw [upd_same] at e; rw [hx]; exact e
    · rw [upd_ne y] at e; exact w.fr.ih a o e
  · rw [upd_ne (fun y : a = p => e (by rw [y]; exact h0))]; exact w.fr.nw a e z
/-- .. as what an expression gives -/
theorem gd_give {te : TE} {post : D → List Cell → Prop} (h : GoE K n te ρ ts g fun s g1 => ∃ j ds, s = .c j ∧ n ≤ j ∧ g1[j]? = some (some ds) ∧ post (.list ds) (g1.set j none)) : GoD K n te ρ ts g post := by
  intro I0 H0 bs σ vs H hn w Q q
  refine h I0 H0 bs σ vs H hn w _ fun v H1 s g1 ⟨I, ls, w1⟩ ⟨j, ds, e, hj, hg, pp⟩ => ?_
  subst e
  obtain ⟨w2, r⟩ := w1.pop
  cases r with
  | @c p _ hp =>
    obtain ⟨I', w3, i⟩ := w2.give (by rw [hn]; exact hj) hp hg
    exact q _ H1 (.d (.list ds)) _ ⟨I', ls, w3.push (.d i)⟩ ⟨_, rfl, pp⟩
/-- .. as a slot -/
theorem gs_give {t : TS} (i : Nat) {j : Nat} {ds : List D} (hi : ρ[i]? = some (.c j)) (hj : n ≤ j) (hg : g[j]? = some (some ds)) (h : GoS K n t (ρ.set i (.d (.list ds))) (g.set j none) κ) : GoS K n t ρ g κ := by
  intro I0 H0 bs σ H E hn ⟨I, ls, w⟩ m
  obtain ⟨o, e, r⟩ := Paired.get w.rs hi
  cases r with
  | @c p _ hp =>
    obtain ⟨I', w3, is⟩ := w.give (by rw [hn]; exact hj) hp hg
    have hs : σ.set i (some (.ref p)) = σ := by
      apply List.ext_getElem?
      intro k
      rw [List.getElem?_set]
      by_cases z : i = k
      · subst z
        have hl := (List.getElem?_eq_some_iff.mp e).1
        rw [if_pos rfl, if_pos hl, e]
      · rw [if_neg z]
    have rs := Paired.set (RelS.d is) i w3.rs
    rw [hs] at rs
    exact h I0 H0 bs σ H E hn ⟨I', ls, ⟨w3.fr, w3.ce, w3.lo, rs, w3.rv⟩⟩ m
/-- a cell is written -/
theorem Wd.put {j : Nat} {p : Addr} {ds : List D} {xs : List V} (w : Wd K I0 H0 bs ls ρ ts g σ vs I H) (hp : (bs ++ ls)[j]? = some p) (ip : I p = none) (hx : H p ≠ none) (ia : IsAll K I xs ds) : Wd K I0 H0 bs ls ρ ts (g.set j (some ds)) σ vs I (upd H p (.lst xs)) := by
  have hm : p ∈ bs ++ ls := List.mem_of_getElem? hp
  refine ⟨⟨w.fr.ii, fun a o e => ?_, fun a o na e => ?_, fun a e => ?_, w.fr.nw⟩, w.ce.put ip ia hp, w.lo, w.rs, w.rv⟩
  · rw [upd_ne (fun y : a = p => by rw [y, ip] at e; cases e)]; exact w.fr.ih a o e
  · rw [upd_ne (fun y : a = p => ?_)]
    · exact w.fr.fr a o na e
    · subst y
      rcases List.mem_append.mp hm with m | m
      · exact na m
      · rw [w.lo a m] at e; cases e
  · by_cases y : a = p
    · rw [y, upd_same]; exact fun z => nomatch z
    · rw [upd_ne y]; exact w.fr.dm a e
/-- xs.append(e) -/
theorem gs_app {ta te : TE} (h : GoE K n ta ρ [] g fun s g1 => ∃ (j : Nat) (d0 : List D), s = .c j ∧ g1[j]? = some (some d0) ∧ GoD K n te ρ [.c j] g1 fun d g2 => ∃ ds, g2[j]? = some (some ds) ∧ ds.length < 90000 ∧ κ.nx ρ (g2.set j (some (ds ++ [d])))) :
    GoS K n (tDrop (tBM K "list" rAppend ta (tCons te tNil))) ρ g κ := by
  intro I0 H0 bs σ H E hn w m
  refine h I0 H0 bs σ [] H hn w _ fun v H1 s g1 ⟨I, ls, w1⟩ ⟨j, d0, e, hg0, p⟩ => ?_
  subst e
  have w1' := w1
  obtain ⟨w2, r⟩ := w1.pop
  cases r with
  | @c a _ hp =>
    obtain ⟨_, x0, hx0, _⟩ := w2.ce.at hp hg0
    refine ⟨Or.inl ⟨rfl, x0, Evl.sq_of hx0⟩, p I0 H0 bs σ [.ref a] H1 hn ⟨I, ls, w1'⟩ _ fun y H2 s2 g2 ⟨I2, ls2, w3⟩ ⟨d, e2, ds, hg, hz, pn⟩ => ?_⟩
    subst e2
    obtain ⟨w4, ry⟩ := w3.pop
    obtain ⟨w5, ra⟩ := w4.pop
    cases ra with
    | @c a' _ hp2 =>
      obtain ⟨ip, xs, hx, ia⟩ := w5.ce.at hp2 hg
      cases ry with
      | d iy =>
        refine ⟨_, xs, y, rfl, rfl, hx, by rw [ia.length]; exact Evl.sz_lt (by omega), m.nx σ _ ρ _ ⟨I2, ls2, w5.put hp2 ip (by rw [hx]; exact fun z => nomatch z) (ia.append (.one iy))⟩ pn⟩
/-- xs[i] = e -/
theorem gs_set {te ta tb : TE} (h : GoD K n te ρ [] g fun d g1 => GoE K n ta ρ [.d d] g1 fun s g2 => ∃ j : Nat, s = .c j ∧ GoD K n tb ρ [.c j, .d d] g2 fun di g3 => ∃ (i : Int) (ds : List D) (k : Nat), di = .int i ∧ g3[j]? = some (some ds) ∧ ixN ds.length i = some k ∧ κ.nx ρ (g3.set j (some (ds.set k d)))) :
    GoS K n (tAsg te (gSub ta tb rSetL)) ρ g κ := by
  intro I0 H0 bs σ H E hn w m
  refine h I0 H0 bs σ [] H hn w _ fun v H1 s g1 w1 ⟨d, e, p⟩ => ?_
  subst e
  refine p I0 H0 bs σ [v] H1 hn w1 _ fun o H2 s2 g2 w2 ⟨j, e, p⟩ => ?_
  subst e
  refine p I0 H0 bs σ [o, v] H2 hn w2 _ fun x H3 s3 g3 ⟨I, ls, w3⟩ ⟨di, e, i, ds, k, e2, hg, hk, pn⟩ => ?_
  subst e e2
  obtain ⟨w4, r3⟩ := w3.pop
  obtain ⟨w5, r2⟩ := w4.pop
  obtain ⟨w6, r1⟩ := w5.pop
  cases r3 with
  | d i3 =>
    cases i3
    cases r2 with
    | @c a _ hp =>
      cases r1 with
      | d i1 =>
        obtain ⟨ip, xs, hx, ia⟩ := w6.ce.at hp hg
        exact ⟨a, xs, i, k, rfl, rfl, hx, by rw [ia.length]; exact hk, m.nx σ _ ρ _ ⟨I, ls, w6.put hp ip (by rw [hx]; exact fun z => nomatch z) (ia.set i1 k)⟩ pn⟩
/-! ### cells behind the first m are left -/
def cutV1 (m : Nat) : SV → SV
  | .c j => if j < m then .c j else .no
  | s => s
def cutS (m : Nat) (ρ : List SV) : List SV := ρ.map (cutV1 m)
theorem Cells.take : ∀ {as : List Addr} {g : List Cell} (m : Nat), Cells K I H as g → Cells K I H (as.take m) (g.take m)
  | _, _, 0, _ => .nil
  | _, _, _ + 1, .nil => .nil
  | _, _, m + 1, .live a b c nn t => .live a b c (fun z => nn (List.mem_of_mem_take z)) (Cells.take m t)
  | _, _, m + 1, .dead b nn t => .dead b (fun z => nn (List.mem_of_mem_take z)) (Cells.take m t)
theorem rels_cut {m : Nat} : ∀ {o : L2.St} {ss : List SV}, Rels K I as o ss → Rels K I (as.take m) o (cutS m ss)
  | _, _, .nil => .nil
  | _, _, .cons r t => .cons (by
      cases r with
      | no => exact .no
      | d i => exact .d i
      | s i => exact .s i
      | @c p j hp =>
        show RelS K I (as.take m) _ (if j < m then .c j else .no)
        by_cases h : j < m
        · rw [if_pos h]; exact .c (by rw [List.getElem?_take, if_pos h]; exact hp)
        · rw [if_neg h]; exact .no) (rels_cut t)
/-- for target in iter: body -/
theorem gs_for {wi : TI} {gt : TG} {tb : TS} (h : GoI K n wi ρ [] g fun items g1 => ∃ Iv : Nat → List SV → List Cell → Prop, Iv 0 ρ g1 ∧
    (∀ i d ρ' g', items[i]? = some d → Iv i ρ' g' → g'.length = g1.length → GoG K g1.length gt d ρ' [] g' fun ρ2 => GoS K g1.length tb ρ2 g' ⟨fun ρ3 g3 => Iv (i + 1) (cutS g1.length ρ3) (g3.take g1.length), fun s g3 => ∃ d, s = .d d ∧ κ.rt (.d d) (g3.take g1.length), fun ρ3 g3 => κ.nx (cutS g1.length ρ3) (g3.take g1.length), fun ρ3 g3 => Iv (i + 1) (cutS g1.length ρ3) (g3.take g1.length)⟩) ∧
    (∀ ρ' g', Iv items.length ρ' g' → g'.length = g1.length → κ.nx ρ' g')) : GoS K n (tFor wi gt tb) ρ g κ := by
  intro I0 H0 bs σ H E hn w m
  refine h I0 H0 bs σ [] H hn w _ fun J H1 g1 items I1 ls w1 wk ⟨Iv, iv0, step, fin⟩ => ?_
  have len1 : (bs ++ ls).length = g1.length := w1.ce.len
  -- what a world over the loop's base is, seen from the def
  have out : ∀ {ρ' ts' g' σ' vs' H'}, World K I1 H1 (bs ++ ls) ρ' ts' g' σ' vs' H' → ∃ I', Wd K I0 H0 bs ls (cutS g1.length ρ') (cutS g1.length ts') (g'.take g1.length) σ' vs' I' H' ∧ Ex I1 I' ∧ (g'.take g1.length).length = g1.length ∧ Fr (bs ++ ls) I1 H1 I' H' := by
    intro ρ' ts' g' σ' vs' H' ⟨I', ls', w'⟩
    have tk : ((bs ++ ls) ++ ls').take g1.length = bs ++ ls := by rw [← len1, List.take_left']; rfl
    have ce := w'.ce.take g1.length
    have rs := rels_cut (m := g1.length) w'.rs
    have rv := rels_cut (m := g1.length) w'.rv
    rw [tk] at ce rs rv
    exact ⟨I', ⟨w1.fr.deep w1.lo w'.fr, ce, w1.lo, rs, rv⟩, w'.fr.ii, by rw [← ce.len]; exact len1, w'.fr⟩
  refine ⟨fun i k σ' H' => ∃ ρ' g' I', i + k = items.length ∧ Wd K I0 H0 bs ls ρ' [] g' σ' [] I' H' ∧ Fr (bs ++ ls) I1 H1 I' H' ∧ g'.length = g1.length ∧ Iv i ρ' g', ⟨items.length, ρ, g1, I1, by omega, w1, Fr.refl w1.fr.ih, rfl, iv0⟩, fun i k σ' H2 hW => ?_⟩
  obtain ⟨ρ', g', I', em, wd, fr, hl, iv⟩ := hW
  by_cases hi : i < items.length
  · refine .inr ⟨wk.go i I' H2 fr.ii wd.fr.ih hi, fun σ'' H'' => ∃ ρ' g' I', Wd K I0 H0 bs ls ρ' [] g' σ'' [] I' H'' ∧ Fr (bs ++ ls) I1 H1 I' H'' ∧ g'.length = g1.length ∧ Iv (i + 1) ρ' g', fun σ'' H'' ⟨a, b, c, d, e, f, k2⟩ => ⟨k - 1, by omega, a, b, c, by omega, d, e, f, k2⟩, fun x H3 hy => ?_⟩
    have hdi : items[i]? = some items[i] := List.getElem?_eq_getElem hi
    obtain ⟨I3, f3, ix⟩ := wk.yld i _ I' H2 x H3 fr.ii wd.fr.ih hdi hy
    have wd3 := wd.step f3
    have fr3 : Fr (bs ++ ls) I1 H1 I3 H3 := fr.trans (f3.sub fun _ z => nomatch z)
    have wB : World K I1 H1 (bs ++ ls) ρ' [.d items[i]] g' σ' [x] H3 := by
      refine ⟨I3, [], Wd.mk fr3 ?_ (fun _ z => nomatch z) ?_ ?_⟩
      · rw [List.append_nil]; exact wd3.ce
      · rw [List.append_nil]; exact wd3.rs
      · rw [List.append_nil]; exact .cons (.d ix) .nil
    refine step i _ ρ' g' hdi iv hl I1 H1 (bs ++ ls) σ' [] x H3 len1 wB _ fun σ2 ρ2 H4 w4 gb => ?_
    refine gb I1 H1 (bs ++ ls) σ2 H4 _ len1 w4 ⟨fun σ5 H5 ρ5 g5 w5 p5 => ?_, fun v σ5 H5 ρ5 s5 g5 w5 ⟨d5, e5, p5⟩ => ?_, fun σ5 H5 ρ5 g5 w5 p5 => ?_, fun σ5 H5 ρ5 g5 w5 p5 => ?_⟩
    · obtain ⟨I5, a, b, c, d⟩ := out w5
      exact ⟨_, _, I5, a, d, c, p5⟩
    · subst e5
      obtain ⟨I5, a, b, c, d⟩ := out w5
      exact m.rt v σ5 H5 _ _ _ ⟨I5, ls, a⟩ p5
    · obtain ⟨I5, a, b, c, d⟩ := out w5
      exact m.nx σ5 H5 _ _ ⟨I5, ls, a⟩ p5
    · obtain ⟨I5, a, b, c, d⟩ := out w5
      exact ⟨_, _, I5, a, d, c, p5⟩
  · have e : i = items.length := by omega
    subst e
    exact .inl ⟨wk.stop I' H2 fr.ii wd.fr.ih, m.nx σ' H2 ρ' g' ⟨I', ls, wd⟩ (fin ρ' g' iv hl)⟩
/-- while test: body -/
theorem gs_while {c : TT} {tb : TS} (Iv : Nat → List SV → List Cell → Prop) (m0 : Nat) (h0 : Iv m0 ρ g)
    (hs : ∀ m ρ' g', Iv m ρ' g' → GoT K n c ρ' [] g' fun b g1 => (b = true → GoS K n tb ρ' g1 ⟨fun ρ3 g3 => ∃ m', m' < m ∧ Iv m' ρ3 g3, κ.rt, κ.nx, fun ρ3 g3 => ∃ m', m' < m ∧ Iv m' ρ3 g3⟩) ∧ (b = false → κ.nx ρ' g1)) : GoS K n (tWhile c tb) ρ g κ := by
  intro I0 H0 bs σ H E hn w m
  refine ⟨fun k σ' H' => ∃ ρ' g', World K I0 H0 bs ρ' [] g' σ' [] H' ∧ Iv k ρ' g', ⟨m0, ρ, g, w, h0⟩, fun k σ' H' ⟨ρ', g', w', iv⟩ => ?_⟩
  refine hs k ρ' g' iv I0 H0 bs σ' [] H' hn w' _ fun b H1 g1 w1 ⟨p, p'⟩ => ?_
  cases b with
  | true =>
    rw [if_pos rfl]
    refine ⟨fun σ2 H2 => ∃ m', m' < k ∧ ∃ ρ' g', World K I0 H0 bs ρ' [] g' σ2 [] H2 ∧ Iv m' ρ' g', fun σ2 H2 ⟨m', h, q⟩ => ⟨m', h, q⟩, p rfl I0 H0 bs σ' H1 _ hn w1 ⟨fun σ5 H5 ρ5 g5 w5 ⟨m', h, q⟩ => ⟨m', h, ρ5, g5, w5, q⟩, m.rt, m.nx, fun σ5 H5 ρ5 g5 w5 ⟨m', h, q⟩ => ⟨m', h, ρ5, g5, w5, q⟩⟩⟩
  | false =>
    rw [if_neg Bool.false_ne_true]
    exact m.nx σ' H1 ρ' g1 w1 (p' rfl)
end
/-! ### defs -/
theorem paired_start {K : PySem.W.Frag} {I : Hp} {as : List Addr} {N : List Str} {ws : List V} {ss : List SV} (r : Rels K I as (ws.map some) ss) : Rels K I as (L2.start N ws) (ss ++ List.replicate (N.length - ss.length) .no) := by
  have hl : ws.length = ss.length := by
    have := Paired.length r
    rw [List.length_map] at this
    exact this
  unfold L2.start
  rw [hl]
  refine Paired.app r ?_
  generalize N.length - ss.length = m
  induction m with
  | zero => exact .nil
  | succ m ih => exact .cons .no ih
def KF (m : Nat) (post : D → List Cell → Prop) : Ks := ⟨fun _ g' => post .none (g'.take m), fun s g' => ∃ d, s = .d d ∧ post d (g'.take m), fun _ _ => False, fun _ _ => False⟩
theorem gs_retF {K : PySem.W.Frag} {n m : Nat} {te : TE} {ρ : List SV} {g : List Cell} {post : D → List Cell → Prop} (h : GoD K n te ρ [] g fun d g' => post d (g'.take m)) : GoS K n (tRet te) ρ g (KF m post) := gs_ret (GoE.imp h fun s g' ⟨d, e, p⟩ => ⟨d, e, d, rfl, p⟩)
theorem fn_go {P : Program} {w : PySem.World} {K : PySem.W.Frag} {mg : Str → Option Value} {base : Heap} {x qual : Str} {st : Stmt} {f : Addr} {fd : FuncData} {N ps : List Str} {k : Nat} {R : RSpec} (F : Fun K x qual st f fd) (S : FnScope N ps (defScope st))
    (len : ∀ ss g post, R ss g post → ss.length = ps.length) {t : TS}
    (body : ∀ (cdv : Value) (A : Around) (outer : List Env) (s : Shared) (H : Hp) (E : XK), Room k (A.deeper (envOfC qual (defScope st) s.heap.objs.size f cdv)) →
      PSs (cxOf CX0 P w K mg base N qual (defScope st) f cdv A outer s H E).nox (defBody st) t)
    (go : ∀ ss g post, R ss g post → GoS K g.length t (ss ++ List.replicate (N.length - ss.length) .no) g (KF g.length post)) :
    FnOk P w K mg base CX0 (k + 1) f fd ps (spOf K R) := by
  refine F.ok S (fun vs H Q E h => ?_) (fun cdv A outer s H vs Q E hr h => ?_)
  · obtain ⟨I, as, ss, g, post, _, _, r, hR, _⟩ := h
    have := Paired.length r
    rw [List.length_map] at this
    exact this.trans (len ss g post hR)
  · refine ⟨t, body cdv A outer s H E hr, ?_⟩
    obtain ⟨I, as, ss, g, post, ex, ce, r, hR, q⟩ := h
    refine go ss g post hR I H as _ H _ ce.len ⟨I, [], Wd.mk (Fr.refl ex) (by rw [List.append_nil]; exact ce) (fun _ z => nomatch z) (by rw [List.append_nil]; exact paired_start r) .nil⟩ ⟨fun σ' H' ρ' g' ⟨I', ls, w'⟩ p => ?_, fun v σ' H' ρ' s' g' ⟨I', ls, w'⟩ ⟨d, e, p⟩ => ?_, fun _ _ _ _ _ p => p, fun _ _ _ _ _ p => p⟩
    · have c := w'.ce.take g.length
      rw [← ce.len, List.take_left'] at c
      · exact q .non I' H' .none _ w'.fr c .non (by rw [← ce.len] at p; exact p)
      · rfl
    · subst e
      have c := w'.ce.take g.length
      rw [← ce.len, List.take_left'] at c
      · obtain ⟨_, rr⟩ := w'.pop
        cases rr with
        | d i => exact q v I' H' d _ w'.fr c i (by rw [← ce.len] at p; exact p)
      · rfl
/-! ### a def that hands back a new list, the caller's own; arguments data or the script -/
abbrev NSpec := List SV → (List D → Prop) → Prop
def spNew (K : PySem.W.Frag) (R : NSpec) : Sp := fun ws H Q _ => ∃ I ss post, Ex I H ∧ Rels K I [] (ws.map some) ss ∧ R ss post ∧
  ∀ p I' H' vs ds, Fr [] I H I' H' → H p = none → I' p = none → H' p = some (.lst vs) → IsAll K I' vs ds → post ds → Q (.ref p) H'
def KN (post : List D → Prop) : Ks := ⟨fun _ _ => False, fun s g' => ∃ j ds, s = .c j ∧ g'[j]? = some (some ds) ∧ post ds, fun _ _ => False, fun _ _ => False⟩
theorem fn_goN {P : Program} {w : PySem.World} {K : PySem.W.Frag} {mg : Str → Option Value} {base : Heap} {x qual : Str} {st : Stmt} {f : Addr} {fd : FuncData} {N ps : List Str} {k : Nat} {R : NSpec} (F : Fun K x qual st f fd) (S : FnScope N ps (defScope st))
    (len : ∀ ss post, R ss post → ss.length = ps.length) {t : TS}
    (body : ∀ (cdv : Value) (A : Around) (outer : List Env) (s : Shared) (H : Hp) (E : XK), Room k (A.deeper (envOfC qual (defScope st) s.heap.objs.size f cdv)) →
      PSs (cxOf CX0 P w K mg base N qual (defScope st) f cdv A outer s H E).nox (defBody st) t)
    (go : ∀ ss post, R ss post → GoS K 0 t (ss ++ List.replicate (N.length - ss.length) .no) [] (KN post)) :
    FnOk P w K mg base CX0 (k + 1) f fd ps (spNew K R) := by
  refine F.ok S (fun vs H Q E h => ?_) (fun cdv A outer s H vs Q E hr h => ?_)
  · obtain ⟨I, ss, post, _, r, hR, _⟩ := h
    have := Paired.length r
    rw [List.length_map] at this
    exact this.trans (len ss post hR)
  · refine ⟨t, body cdv A outer s H E hr, ?_⟩
    obtain ⟨I, ss, post, ex, r, hR, q⟩ := h
    refine go ss post hR I H [] _ H _ rfl ⟨I, [], Wd.mk (Fr.refl ex) .nil (fun _ z => nomatch z) (paired_start r) .nil⟩ ⟨fun _ _ _ _ _ p => p.elim, fun v σ' H' ρ' s' g' ⟨I', ls, w'⟩ ⟨j, ds, e, hg, p⟩ => ?_, fun _ _ _ _ _ p => p, fun _ _ _ _ _ p => p⟩
    subst e
    obtain ⟨w2, rr⟩ := w'.pop
    cases rr with
    | @c a _ ha =>
      obtain ⟨ia, xs, hx, il⟩ := w2.ce.at ha hg
      exact q a I' H' xs ds w2.fr (w2.lo a (List.mem_of_getElem? ha)) ia hx il p
section
variable {K : PySem.W.Frag} {I0 H0 I I' H H' : Hp} {bs ls as : List Addr} {ρ ts : List SV} {g : List Cell} {σ : L2.St} {vs : List V} {n : Nat}
def NoC (ss : List SV) : Prop := ∀ s ∈ ss, ∀ j, s ≠ .c j
theorem rels_noC {bs : List Addr} : ∀ {ws : List (Option V)} {ss : List SV}, NoC ss → Rels K I as ws ss → Rels K I bs ws ss
  | _, [], _, .nil => .nil
  | _, s :: _, h, .cons r t => .cons (by
      cases r with
      | no => exact .no
      | d i => exact .d i
      | s i => exact .s i
      | @c _ j _ => exact absurd rfl (h _ List.mem_cons_self j)) (rels_noC (fun s m => h s (List.mem_cons_of_mem _ m)) t)
theorem ge_callN {R : NSpec} {E : XK} {ta : TA} {post : PostE} (h : GoA K n ta ρ ts g fun ss g1 => NoC ss ∧ R ss fun ds => post (.c g1.length) (g1 ++ [some ds])) : GoE K n (tCall (spNew K R) [] E ta) ρ ts g post := by
  intro I0 H0 bs σ vs H hn w Q q
  refine h I0 H0 bs σ vs H hn w _ fun ws H1 ss g1 hl ⟨I, ls, w1⟩ ⟨nc, p⟩ => ?_
  obtain ⟨w2, r2⟩ := w1.pops hl
  rw [List.append_nil]
  refine ⟨I, ss, _, w2.fr.ih, rels_noC nc r2, p, fun a I' H' xs ds f ha ia hx il pp => ?_⟩
  have w3 := w2.step f
  have h0a : H0 a = none := by
    cases z : H0 a with
    | none => rfl
    | some o => exact absurd ha (w2.fr.dm a (by rw [z]; exact fun y => nomatch y))
  have na : a ∉ bs ++ ls := fun m => w2.ce.in_ a m ha
  have hj : (bs ++ (ls ++ [a]))[g1.length]? = some a := by
    rw [← List.append_assoc, ← w3.ce.len, List.getElem?_append_right (Nat.le_refl _), Nat.sub_self]
    rfl
  have up : ∀ (j : Nat) p, (bs ++ ls)[j]? = some p → (bs ++ (ls ++ [a]))[j]? = some p := fun j p e => by
    rw [← List.append_assoc, List.getElem?_append_left (List.getElem?_eq_some_iff.mp e).1]
    exact e
  refine q (.ref a) H' (.c g1.length) _ ⟨I', ls ++ [a], ⟨w3.fr, ?_, fun b m => ?_, Paired.imp (fun _ _ r => r.mono (Ex.refl I') up) w3.rs, .cons (.c hj) (Paired.imp (fun _ _ r => r.mono (Ex.refl I') up) w3.rv)⟩⟩ pp
  · rw [← List.append_assoc]
    exact Cells.snoc ia hx il na w3.ce
  · rcases List.mem_append.mp m with m | m
    · exact w3.lo b m
    · rw [List.mem_singleton] at m
      rw [m]; exact h0a
end
end Go
/-! Sets of whole numbers and texts, made of a list, and sorted. -/
namespace SetMix
open PySem PySem.Spec PyProof.Rows L2
def keyAt : Value → Key
  | .int k _ => .inl k
  | .str x _ => .inr x
  | _ => .inl 0
def Fit (wd : World) (e : Int × Value) : Prop := keyIs (keyAt e.2) e.2 = true ∧ e.1 = keyH wd (keyAt e.2) ∧ e.2.scannable = true
def inK (ks : List Key) (j : Key) : Bool := ks.any fun x => decide (j = x)
theorem inK_iff {ks : List Key} {j : Key} : inK ks j = true ↔ j ∈ ks := by
  unfold inK
  rw [List.any_eq_true]
  constructor
  · rintro ⟨x, hx, e⟩
    exact of_decide_eq_true e ▸ hx
  · exact fun h => ⟨j, h, decide_eq_true rfl⟩
abbrev keysOf (l : List (Int × Value)) : List Key := l.map fun e => keyAt e.2
def Tab (wd : World) (hp : Heap) (a : Addr) (S : Key → Bool) (m : Nat) : Prop :=
  ∃ ob es ep tb, hp.get? a = some ob ∧ ob.ExactSet ∧ ob.data = .set es ep tb ∧ (∀ e ∈ es.toList, Fit wd e) ∧ (keysOf es.toList).Nodup ∧ (∀ k, S k = true ↔ k ∈ keysOf es.toList) ∧
    es.size < scanBound ∧ tb.fits es.size = true ∧ es.size = m ∧ Ris tb.place.toList ∧ (wd.params.followText "set-order" = true ∨ tb.led = true)
section
variable {P : Program} {wd : World} {A : Around} {E : Value → Shared → Prop} {st : Shared} {a : Addr} {S : Key → Bool} {m : Nat}
theorem keyAt_of {k : Key} {v : Value} (h : keyIs k v = true) : keyAt v = k := by
  rcases keyIs_shape h with ⟨i, t, rfl, rfl⟩ | ⟨x, t, rfl, rfl⟩ <;> rfl
theorem Tab.keep {hp hq : Heap} (T : Tab wd hp a S m) (k : ∀ ob, hp.get? a = some ob → hq.get? a = some ob) : Tab wd hq a S m := by
  obtain ⟨ob, es, ep, tb, h1, rest⟩ := T
  exact ⟨ob, es, ep, tb, k ob h1, rest⟩
theorem Tab.same {hp : Heap} {S' : Key → Bool} (T : Tab wd hp a S m) (e : ∀ k, S' k = S k) : Tab wd hp a S' m := (funext e : S' = S) ▸ T
theorem fit_elems {l : List (Int × Value)} (f : ∀ e ∈ l, Fit wd e) : ElemsOf (mixKind P wd) l := fun e he => ⟨⟨keyAt e.2, (f e he).1, (f e he).2.1⟩, (f e he).2.2⟩
theorem fit_mem {l : List (Int × Value)} (f : ∀ e ∈ l, Fit wd e) (k : Key) : k ∈ keysOf l ↔ ∃ e ∈ l, (mixKind P wd).is k e.2 = true := by
  constructor
  · intro h
    obtain ⟨e, he, q⟩ := List.mem_map.mp h
    exact ⟨e, he, by rw [← q]; exact (f e he).1⟩
  · rintro ⟨e, he, q⟩
    exact List.mem_map.mpr ⟨e, he, keyAt_of q⟩
theorem tab_tail {gw : Bool → Sem Unit} (hg : ∀ (b : Bool) (s1 : Shared) (Q1 : Unit → Shared → Prop), Q1 () s1 → wpAny (model P wd) A (gw b) Q1 E s1)
    {ob : Obj} {es : Array (Int × Value)} {ep : Nat} {tb : SetTable} (h1 : st.heap.get? a = some ob) (hx : ob.ExactSet) (hd : ob.data = .set es ep tb)
    {e1 : Array (Int × Value)} {t2 : SetTable} {S' : Key → Bool} (f1 : ∀ e ∈ e1.toList, Fit wd e) (n1 : (keysOf e1.toList).Nodup) (m1 : ∀ k, S' k = true ↔ k ∈ keysOf e1.toList)
    (b1 : e1.size < scanBound) (f2 : t2.fits e1.size = true) (r2 : Ris t2.place.toList) (l2 : wd.params.followText "set-order" = true ∨ t2.led = true) {dm : Bool} {R : Option Bool → Shared → Prop}
    (hR : ∀ hq, Heap.SameBut a st.heap hq → Tab wd hq a S' e1.size → R (some true) { st with heap := hq }) :
    wpAny (model P wd) A (do
        storeSet a e1 t2
        if (!dm && t2.tooFull) = true then do
            gw (relayAll t2 e1 (SetTable.grown e1.size)).2.2
            storeSet a (relayAll t2 e1 (SetTable.grown e1.size)).1 (relayAll t2 e1 (SetTable.grown e1.size)).2.1
            pure (some true)
          else pure (some true)) R E st := by
  refine wpAny_bind (wpAny_storeSet_of h1 hd ?_ (fits_of_scanBound b1))
  have g1 := store_at (es' := e1) (t' := t2) h1 hd
  have u1 := Heap.SameBut.update st.heap a (Obj.putSet e1 t2)
  split
  · have p3 := relayAll_perm t2 e1 (SetTable.grown e1.size)
    have q3 := relayAll_fits t2 e1 (SetTable.grown e1.size)
    have r3 := relayAll_ris t2 e1 (SetTable.grown e1.size)
    have l3 := relayAll_led t2 e1 (SetTable.grown e1.size)
    generalize relayAll t2 e1 (SetTable.grown e1.size) = Z at p3 q3 r3 l3 ⊢
    obtain ⟨e2, t3, gv⟩ := Z
    dsimp only at p3 q3 r3 l3 ⊢
    have z2 : e2.size = e1.size := by rw [← Array.length_toList, p3.length_eq, Array.length_toList]
    have b2 : e2.size < scanBound := by rw [z2]; exact b1
    refine wpAny_bind (hg _ _ _ ?_)
    refine wpAny_bind (wpAny_storeSet_of g1 rfl ?_ (fits_of_scanBound b2))
    have g2 := store_at (es' := e2) (t' := t3) g1 rfl
    refine wpAny_pure (hR _ (u1.trans (Heap.SameBut.update _ a _)) ?_)
    refine ⟨_, e2, _, t3, g2, hx, rfl, fun e he => f1 e (p3.mem_iff.mp he), (p3.map _).nodup_iff.mpr n1, fun k => (m1 k).trans (p3.map _).mem_iff.symm, b2, q3, z2, r3, ?_⟩
    rcases l2 with z | z
    · exact .inl z
    · exact .inr (by rw [l3]; exact z)
  · exact wpAny_pure (hR _ u1 ⟨_, e1, _, t2, g1, hx, rfl, f1, n1, m1, b1, f2, rfl, r2, l2⟩)
theorem tab_add {k : Key} {v : Value} (hv : keyIs k v = true) {Q : Bool → Shared → Prop} (T : Tab wd st.heap a S m) (room : m + 1 < scanBound)
    (hQ : ∀ hq, Heap.SameBut a st.heap hq → Tab wd hq a (fun j => S j || decide (j = k)) (if S k = true then m else m + 1) → Q (!S k) { st with heap := hq }) :
    wpAny (model P wd) A (setAddHashed a v ((mixKind P wd).hash k)) Q E st := by
  obtain ⟨ob, es, ep, tb, h1, hx, hd, fi, nd, hm, hb, hf, hn, hr, hl⟩ := T
  have hsc : v.scannable = true := by rcases keyIs_shape hv with ⟨i, t, rfl, rfl⟩ | ⟨x, t, rfl, rfl⟩ <;> rfl
  have hel : ElemsOf (mixKind P wd) es.toList := fit_elems fi
  unfold setAddHashed setAddHashedIn
  refine wpAny_holding (wpAny_bind (wpAny_setState_of h1 hd hf ?_))
  dsimp only
  rw [byScan_of hsc hb hel]
  simp only [↓reduceIte]
  unfold setAddByScan
  refine wpAny_bind ?_
  refine wpAny_bind (wpAny_rule ?_)
  refine wpAny_bind (wpAny_setScan_of (knd := mixKind P wd) (k := k) hv h1 hd hf hel ?_)
  cases hfi : List.findIdx? (fun e => (mixKind P wd).is k e.2) es.toList with
  | some j =>
    dsimp only
    obtain ⟨hj, pj, _⟩ := List.findIdx?_eq_some_iff_getElem.mp hfi
    have hSk : S k = true := (hm k).2 ((fit_mem (P := P) fi k).2 ⟨_, List.getElem_mem hj, pj⟩)
    refine wpAny_pure (wpAny_pure ?_)
    have q := hQ st.heap (Heap.SameBut.refl a st.heap) ⟨ob, es, ep, tb, h1, hx, hd, fi, nd, fun i => by
      rw [Bool.or_eq_true, decide_eq_true_eq, ← hm i]
      exact ⟨fun z => z.elim id (fun e => e ▸ hSk), .inl⟩, hb, hf, by rw [if_pos hSk]; exact hn, hr, hl⟩
    rw [hSk] at q
    exact q
  | none =>
    dsimp only
    have hnk : k ∉ keysOf es.toList := fun z => by
      obtain ⟨e, he, q⟩ := (fit_mem (P := P) fi k).1 z
      have c := List.findIdx?_eq_none_iff.mp hfi e he
      rw [q] at c
      cases c
    have hSk : S k = false := by
      cases q : S k with
      | false => rfl
      | true => exact absurd ((hm k).1 q) hnk
    have hgw : ∀ (b : Bool) {s1 : Shared} {Q1 : Unit → Shared → Prop}, Q1 () s1 → wpAny (model P wd) A (match b with | true => rule "set.scan.the-table-gave-way" | false => pure ()) Q1 E s1 := fun b s1 Q1 q => by
      cases b <;> first | exact wpAny_pure q | exact wpAny_rule q
    have p1 := layNew_perm tb es ((mixKind P wd).hash k) v
    have q1 := layNew_fits tb es ((mixKind P wd).hash k) v
    have r1 := layNew_ris tb es ((mixKind P wd).hash k) v hr
    have l1 := layNew_led tb es ((mixKind P wd).hash k) v
    generalize layNew tb es ((mixKind P wd).hash k) v = Z at p1 q1 r1 l1 ⊢
    obtain ⟨e1, t1, dm, gv⟩ := Z
    dsimp only at p1 q1 r1 l1 ⊢
    rw [Array.toList_push] at p1
    have pc : e1.toList.Perm (((mixKind P wd).hash k, v) :: es.toList) := p1.trans (List.perm_append_singleton _ _)
    have ek : keyAt v = k := keyAt_of hv
    have pk : (keysOf e1.toList).Perm (k :: keysOf es.toList) := by
      have z := pc.map fun e => keyAt e.2
      rw [List.map_cons] at z
      rw [← ek]
      exact z
    have f1 : ∀ e ∈ e1.toList, Fit wd e := fun e he => by
      rcases List.mem_cons.mp (pc.mem_iff.mp he) with z | z
      · rw [z]
        exact ⟨by show keyIs (keyAt v) v = true; rw [ek]; exact hv, by show keyH wd k = keyH wd (keyAt v); rw [ek], hsc⟩
      · exact fi e z
    have n1 : (keysOf e1.toList).Nodup := pk.nodup_iff.mpr (List.nodup_cons.mpr ⟨hnk, nd⟩)
    have m1 : ∀ i, (S i || decide (i = k)) = true ↔ i ∈ keysOf e1.toList := fun i => by
      rw [Bool.or_eq_true, decide_eq_true_eq, hm i, pk.mem_iff, List.mem_cons]
      exact Or.comm
    have z1 : e1.size = m + 1 := by rw [← Array.length_toList, pc.length_eq, List.length_cons, Array.length_toList, hn]
    have b1 : e1.size < scanBound := by rw [z1]; exact room
    have le1 : wd.params.followText "set-order" = true ∨ t1.led = true := by
      rcases hl with z | z
      · exact .inl z
      · exact .inr (by rw [l1]; exact z)
    have fin : ∀ hq, Heap.SameBut a st.heap hq → Tab wd hq a (fun j => S j || decide (j = k)) e1.size → Q true { st with heap := hq } := fun hq sb r => by
      have q := hQ hq sb
      rw [hSk] at q
      rw [z1] at r
      exact q r
    refine wpAny_bind (hgw _ ?_)
    split
    · refine wpAny_bind ?_
      rw [hashByValue_scannable 8 hsc]
      refine wpAny_pure ?_
      refine tab_tail ?_ h1 hx hd f1 n1 m1 b1 ?_ ?_ ?_ ?_
      · intro b s1 Q1 q; cases b <;> first | exact wpAny_pure q | exact wpAny_rule q
      · first | (split <;> first | exact q1 | exact SetTable.fits_plain_off q1) | exact q1
      · first | (split <;> exact r1) | exact r1
      · first | (split <;> exact le1) | exact le1
      · intro hq sb r; dsimp only; exact wpAny_pure (fin hq sb r)
    · refine wpAny_bind (wpAny_pure ?_)
      simp only [↓reduceIte]
      refine tab_tail ?_ h1 hx hd f1 n1 m1 b1 q1 r1 le1 ?_
      · intro b s1 Q1 q; cases b <;> first | exact wpAny_pure q | exact wpAny_rule q
      · intro hq sb r; dsimp only; exact wpAny_pure (fin hq sb r)
end
theorem tab_new {wd : World} {hp : Heap} {a : Addr} {ks : List Key} (ho : hp.get? a = some { cls := .type "set", dict := none, data := .set #[] 0 (.fresh 0 0 (!wd.params.followText "set-order")) }) : Tab wd hp a (fun j => inK (ks.take 0) j) 0 := by
  refine ⟨_, #[], 0, _, ho, ⟨rfl, rfl, rfl⟩, rfl, fun e he => ?_, ?_, fun k => ?_, by decide, by rfl, rfl, List.Pairwise.nil, ?_⟩
  · simp at he
  · simp [keysOf]
  · simp [keysOf, inK]
  · show wd.params.followText "set-order" = true ∨ (!wd.params.followText "set-order") = true
    cases wd.params.followText "set-order"
    · exact .inr rfl
    · exact .inl rfl
/-- the values of a list are these keys -/
def KeysAre (vs : List Value) (ks : List Key) : Prop := Paired (fun v k => keyIs k v = true) vs ks
section
variable {P : Program} {wd : World} {A : Around} {E : Value → Shared → Prop} {st : Shared}
theorem upd_loop {I : Addr} {fp wr : List Addr} {G : Array GenState → Array GenState → Prop} {n : Nat} {Pv : Nat → Value → Prop} {St : Nat → Shared → Prop} {R : Result → Shared → Prop}
    (W : WalksS P wd A.in1 I fp wr G n Pv St) (a : Addr) (hSf : a ∉ fp) (ks : List Key) (hn : n = ks.length) (hb : ks.length + 1 < scanBound) (hval : ∀ i v, Pv i v → ∃ k, ks[i]? = some k ∧ keyIs k v = true) :
    ∀ (q i : Nat) (s : Shared), n - i = q → i ≤ n → St i s → (∃ c, c ≤ i ∧ Tab wd s.heap a (fun j => inK (ks.take i) j) c) →
      (∀ s' c, Moved (a :: wr) G s s' → c ≤ n → Tab wd s'.heap a (fun j => inK ks j) c → R (.ok (.ret .none)) s') →
      codeAny (model P wd) A (.builtin "set.update.loop" ⟨[.ref a, .ref I], []⟩) R s := by
  have naw : a ∉ wr := fun h => hSf (W.sub _ h)
  have sub1 : ∀ b ∈ wr, b ∈ a :: wr := fun b h => List.mem_cons_of_mem _ h
  intro q
  induction q with
  | zero =>
    intro i s hq hi hst ⟨c, hc, hT⟩ hR
    have e0 : i = n := by omega
    subst e0
    refine codeAny_builtin F.entry_set_update_loop ?_
    rw [Around.under_plainId F.plain_set_update_loop _]
    show wpAny _ A.in1 (pyNext (.ref I) >>= _) _ _ s
    refine wpAny_bind (W.done s _ _ hst fun s' hm => ?_)
    show wpAny _ A.in1 (ret Value.none) _ _ s'
    have e : ks.take i = ks := List.take_of_length_le (by omega)
    rw [e] at hT
    exact wpAny_pure (hR s' c (hm.mono sub1) hc (hT.keep fun o e => hm.heap a o naw e))
  | succ q ih =>
    intro i s hq hi hst ⟨c, hc, hT⟩ hR
    have hlt : i < n := by omega
    refine codeAny_builtin F.entry_set_update_loop ?_
    rw [Around.under_plainId F.plain_set_update_loop _]
    show wpAny _ A.in1 (pyNext (.ref I) >>= _) _ _ s
    refine wpAny_bind (W.item i s _ _ hlt hst fun v s' hP hst' hm => ?_)
    obtain ⟨k, hk, kv⟩ := hval i v hP
    have hT' : Tab wd s'.heap a (fun j => inK (ks.take i) j) c := hT.keep fun o e => hm.heap a o naw e
    show wpAny _ A.in1 (holding [v] (setAdd a v) >>= _) _ _ s'
    refine wpAny_bind (wpAny_holding ?_)
    unfold setAdd
    refine wpAny_holding ?_
    refine wpAny_bind ((mixKind P wd).pyHash (k := k) kv ?_)
    refine tab_add (st := { s' with toks := s'.toks + 1 }) kv hT' (by omega) fun hq sb T2 => ?_
    have T3 : Tab wd hq a (fun j => inK (ks.take (i + 1)) j) (if inK (ks.take i) k = true then c else c + 1) := T2.same fun j => by
      rw [List.take_add_one, hk]
      simp [inK]
    have c3 : (if inK (ks.take i) k = true then c else c + 1) ≤ i + 1 := by split <;> omega
    refine wpAny_pure ⟨plainId_quiet F.plain_set_update_loop _, ih (i + 1) _ (by omega) hlt (W.frame _ s' _ _ hst' (Nat.le_succ _) fun b hb o e => ?_) ⟨_, c3, T3⟩ fun s2 c2 m2 h2 t2 => ?_⟩
    · rw [sb.2 b (fun h : b = a => hSf (h ▸ hb))]; exact e
    · refine hR s2 c2 (Moved.trans W.gtrans ((hm.mono sub1).then_heap (Nat.le_succ _) fun b o hb e => ?_) m2) h2 t2
      rw [sb.2 b (fun h : b = a => hb (h ▸ List.mem_cons_self))]; exact e
end
end SetMix
namespace SetMix
open PySem PySem.Spec PyProof.Rows L2
abbrev freshSet (wd : World) : Obj := { cls := .type "set", dict := none, data := .set #[] 0 (.fresh 0 0 (!wd.params.followText "set-order")) }
section
variable {P : Program} {wd : World} {A : Around} {E : Value → Shared → Prop} {st : Shared}
/-- set(l), l a list of whole numbers and texts -/
theorem call_set_keys {l : Addr} {items : Array Value} (ks : List Key) {Q : Value → Shared → Prop} (hh : A.handled = none) (hl : st.heap.IsList l items) (hit : KeysAre items.toList ks) (hb : ks.length + 1 < scanBound)
    (h : ∀ (hq : Heap) (tk c : Nat), Tab wd hq st.heap.objs.size (fun j => inK ks j) c → c ≤ ks.length → (∀ b o, st.heap.get? b = some o → hq.get? b = some o) → Q (.ref st.heap.objs.size) { st with heap := hq, toks := tk }) :
    wpAny (model P wd) A (call (.type "set") [.ref l]) Q E st := by
  have hisz : items.size = ks.length := by
    have q := Paired.length hit
    rw [Array.length_toList] at q
    exact q
  obtain ⟨_, _, mro1⟩ := F.called_set.mro
  have made1 := F.called_set.made
  have sub1 := F.called_set.sub
  refine wpAny_call (codeAny_of_tree ?_)
  show wpAny _ _ (callAny (.type "set") _) _ _ _
  refine wpAny_pure ⟨Code.quiet_builtin _ (by decide +kernel), codeAny_builtin F.entry_type_call ?_⟩
  rw [Around.under_plain (weight_type_call_type "set" [.ref l] []) rfl]
  have nt1 := F.called_set.notType
  have cc1 := F.called_set.canCreate
  have tc1 := F.typeCall_set_1 (.ref l)
  repeat (any_goals (first | assumption | wp_step))
  refine codeAny_mono (code_set_led1 (.ref l) (E := E) (Q₁ := fun obj s1 => obj = .ref st.heap.objs.size ∧ s1 = { st with heap := st.heap.push (freshSet wd) }) ⟨rfl, rfl⟩) fun r s1 hr => ?_
  cases r with
  | error e => exact hr
  | ok fl =>
    cases fl with
    | ret obj =>
      obtain ⟨rfl, rfl⟩ := hr
      have gS : (st.heap.push (freshSet wd)).get? st.heap.objs.size = some (freshSet wd) := Heap.get?_push_size _ rfl
      have tS : Shared.TypeIs { st with heap := st.heap.push (freshSet wd) } (.ref st.heap.objs.size) "set" := ⟨_, gS, rfl⟩
      have li1 := F.called_set.init.lookup
      have bi1 := F.called_set.init.bind (.ref st.heap.objs.size)
      repeat (any_goals (first | assumption | wp_step))
      refine codeAny_mono (codeAny_call_builtin (R := wants (fun r s2 => r = .none ∧ ∃ hq tk c, s2 = { st with heap := hq, toks := tk } ∧ Tab wd hq st.heap.objs.size (fun j => inK ks j) c ∧ c ≤ ks.length ∧
          (∀ b o, st.heap.get? b = some o → hq.get? b = some o)) E) F.called_set.init.plain F.entry_set_init (check_set_init_1 tS ?_)) fun r2 s2 hr2 => ?_
      · obtain ⟨ol, hol, hcl, nl, hdl⟩ := hl
        obtain ⟨oc, od, oda, osl⟩ := ol
        simp only at hcl hdl
        subst hcl; subst hdl
        have hol' : (st.heap.push (freshSet wd)).get? l = some { cls := .type "list", dict := od, data := .seq items nl, slots := osl } := Heap.get?_push_of_some _ hol
        have ls1 := F.sub_list_set
        have lf1 := F.sub_list_frozenset
        have ne1 : (Value.type "list" == Value.type "dict") = false := by decide
        have hl1 : (st.heap.push (freshSet wd)).IsList l items := ⟨_, hol', rfl, nl, rfl⟩
        unfold Builtin.«set.__init__» noKeywords Builtin.Frozenset.updateFrom
        generalize hPI : pyIter = PI
        wp_walk
        subst hPI
        refine wpAny_pyIter_list hl1 ?_
        refine wpAny_bind (wpAny_runValue ?_)
        have lt1 : l < st.heap.objs.size := Heap.lt_size hol
        have hh3 : A.in1.in1.in1.handled = none := by simp [hh]
        have neI : l ≠ (st.heap.push (freshSet wd)).objs.size := by rw [Heap.size_push]; exact Nat.ne_of_lt (Nat.lt_succ_of_lt lt1)
        have nSf : st.heap.objs.size ∉ [(st.heap.push (freshSet wd)).objs.size, l] := by
          rw [Heap.size_push]
          intro z
          rcases List.mem_cons.mp z with z | z
          · exact absurd z (Nat.ne_of_lt (Nat.lt_succ_self _))
          · rw [List.mem_singleton] at z
            exact absurd z (Nat.ne_of_gt lt1)
        have hval : ∀ (i : Nat) (v : Value), items[i]? = some v → ∃ k, ks[i]? = some k ∧ keyIs k v = true := fun i v hv => by
          have hi : i < ks.length := by rw [← hisz]; exact (Array.getElem?_eq_some_iff.mp hv).1
          obtain ⟨v', e, q⟩ := Go.Paired.get hit (List.getElem?_eq_getElem hi)
          rw [Array.getElem?_toList, hv] at e
          cases e
          exact ⟨_, List.getElem?_eq_getElem hi, q⟩
        refine upd_loop ((Walks.list hh3 _ l neI items).toS) st.heap.objs.size nSf ks hisz hb hval (items.size - 0) 0 _ (by omega) (Nat.zero_le _) ⟨⟨_, Heap.get?_push_size _ rfl, rfl, rfl⟩, (hl1.push _)⟩ ?start ?fin
        case start => exact ⟨0, Nat.le_refl 0, tab_new (Heap.get?_push_of_some _ gS)⟩
        case fin =>
          intro s' c' hm hc' hT'
          obtain ⟨h2, g2, d2, tk2, os2⟩ := s'
          have eg : g2 = st.gens := hm.gens
          have ed : d2 = st.drawn := hm.drawn
          have eo : os2 = st.os := hm.os
          subst eg; subst ed; subst eo
          show wpAny _ _ _ _ _ _
          refine wpAny_pure ?_
          show wpAny _ _ (ret Value.none) _ _ _
          rw [hisz] at hc'
          refine wpAny_pure ⟨rfl, h2, tk2, c', rfl, hT', hc', fun b o e => ?_⟩
          have b0 : b < st.heap.objs.size := Heap.lt_size e
          refine hm.heap b o (fun z => ?_) (Heap.get?_push_of_some _ (Heap.get?_push_of_some _ e))
          rcases List.mem_cons.mp z with z | z
          · exact absurd z (Nat.ne_of_lt b0)
          · rw [List.mem_singleton, Heap.size_push] at z
            exact absurd z (Nat.ne_of_lt (Nat.lt_succ_of_lt b0))
      · cases r2 with
        | error e => exact hr2
        | ok fl2 =>
          cases fl2 with
          | ret r =>
            obtain ⟨rfl, hq, tk, c', rfl, hT', hc', hk'⟩ := hr2
            repeat (any_goals (first | assumption | wp_step))
            exact h _ _ _ hT' hc' hk'
          | _ => exact hr2.elim
    | _ => exact hr.elim
/-! ### sorted(s) -/
def dK : Key → PyData := Go.kD
theorem reads_key {h : Heap} {k : Key} {v : Value} (e : keyIs k v = true) : ∃ as, Reads h v (dK k) as := by
  rcases keyIs_shape e with ⟨i, t, rfl, rfl⟩ | ⟨x, t, rfl, rfl⟩
  · exact ⟨_, Reads.int i t⟩
  · exact ⟨_, Reads.str x t⟩
/-- all of one kind -/
def OneKind (ks : List Key) : Prop := (∀ k ∈ ks, ∃ i, k = .inl i) ∨ ∀ k ∈ ks, ∃ x, k = .inr x
theorem alike_keys {ks : List Key} (h : OneKind ks) : PySem.W.AllAlike (ks.map dK) := by
  intro d hd d' hd'
  obtain ⟨k, hk, rfl⟩ := List.mem_map.mp hd
  obtain ⟨k', hk', rfl⟩ := List.mem_map.mp hd'
  rcases h with h | h
  · obtain ⟨i, rfl⟩ := h k hk
    obtain ⟨j, rfl⟩ := h k' hk'
    rfl
  · obtain ⟨i, rfl⟩ := h k hk
    obtain ⟨j, rfl⟩ := h k' hk'
    rfl
theorem sortable_keys (ks : List Key) : PySem.W.Sortable (ks.map dK) := PySem.W.Sortable.others fun k => by
  cases k with
  | inl i => exact ⟨(fun z => nomatch z), (fun xs z => nomatch z)⟩
  | inr i => exact ⟨(fun z => nomatch z), (fun xs z => nomatch z)⟩
theorem each_keys2 : ∀ {vs : List Value} {ks : List Key}, KeysAre vs ks → PySem.W.EachIs (fun v k => keyIs k v = true) vs ks
  | _, _, .nil => .nil
  | _, _, .cons h t => .cons h (each_keys2 t)
theorem keys_each2 : ∀ {vs : List Value} {ks : List Key}, PySem.W.EachIs (fun v k => keyIs k v = true) vs ks → KeysAre vs ks
  | _, _, .nil => .nil
  | _, _, .cons h t => .cons h (keys_each2 t)
theorem keysAre_at : ∀ (l : List Value), (∀ v ∈ l, keyIs (keyAt v) v = true) → KeysAre l (l.map keyAt)
  | [], _ => .nil
  | v :: l, h => .cons (h v List.mem_cons_self) (keysAre_at l fun u hu => h u (List.mem_cons_of_mem _ hu))
theorem sorted_tab {a : Addr} {S : Key → Bool} {m : Nat} {Q : Value → Shared → Prop} (T : Tab wd st.heap a S m) (hh : A.handled = none) (hu : A.units + 8 < cLine) (one : ∀ ks : List Key, (∀ k ∈ ks, S k = true) → OneKind ks)
    (hQ : ∀ s' p (out : List Value) (c : Nat) (ks ks0 : List Key), (∀ b o, st.heap.get? b = some o → s'.heap.get? b = some o) → s'.gens = st.gens → s'.os = st.os → st.heap.objs.size ≤ p →
      s'.heap.get? p = some (seqObj "list" out.toArray c) → KeysAre out ks → ks = ks0.mergeSort (PySem.W.dataLe false dK) → ks0.Nodup → (∀ k, k ∈ ks0 ↔ S k = true) → ks0.length = m → Q (.ref p) s') :
    wpAny (model P wd) A (call (.builtin "sorted") [.ref a]) Q E st := by
  obtain ⟨ob, es, ep, tb, h1, hx, hd, fi, nd, hm, hb, hf, hn, hr, hl⟩ := T
  refine Calls.call_function_entry kind_sorted plain_sorted entry_sorted (args_sorted1 _) ?_
  unfold Builtin.«sorted»
  refine wpAny_bind (m := checkCount "sorted" 1 1 _) (wpAny_pure ?_)
  refine wpAny_bind (collect_set (A := A.in1) hh ⟨ob, h1, hx.1, hd⟩ hf hb hr hl fun s1 vs k1 z1 g1 o1 pm => ?_)
  have lv : vs.length = m := by rw [pm.length_eq, List.length_map, Array.length_toList]; exact hn
  have sz : vs.length ≤ sizeLine := by
    rw [lv, ← hn, sizeLine_eq]
    unfold scanBound at hb
    omega
  have kv : KeysAre vs (vs.map keyAt) := keysAre_at vs fun v hv => by
    obtain ⟨e, he, q⟩ := List.mem_map.mp (pm.mem_iff.mp hv)
    rw [← q]
    exact (fi e he).1
  have pk : (vs.map keyAt).Perm (keysOf es.toList) := by
    have q := pm.map keyAt
    rw [List.map_map] at q
    exact q
  have mem : ∀ k, k ∈ vs.map keyAt ↔ S k = true := fun k => by rw [pk.mem_iff, hm k]
  have ok1 : OneKind (vs.map keyAt) := one _ fun k hk => (mem k).1 hk
  refine wpAny_bind (wpAny_newList ?_ sz)
  have oL : (s1.heap.push (seqObj "list" vs.toArray 0)).get? s1.heap.objs.size = some (seqObj "list" vs.toArray 0) := Heap.get?_push_size _ rfl
  have er : ∀ h : Heap, PySem.W.EachIs (fun v k => ∃ as, Reads h v (dK k) as) vs (vs.map keyAt) := fun h => (each_keys2 kv).mono fun _ _ e => reads_key e
  refine wpAny_bind (wpAny_holding (wpAny_call_entry slot_list_sort ⟨_, oL, rfl⟩ entry_list_sort ?_ (args_list_sort _)))
  refine PySem.W.list_sort_vals (s := { s1 with heap := s1.heap.push (seqObj "list" vs.toArray 0) }) oL (PySem.W.SortsAt.data (PySem.W.each_map (R := fun v d => ∃ as, Reads _ v d as) dK (er _)) (alike_keys ok1) (sortable_keys _) ?_) sz ⟨_, rfl, ?_⟩
  · intro d hd2
    obtain ⟨k, _, rfl⟩ := List.mem_map.mp hd2
    have : (dK k).depth = 0 := by cases k <;> simp [dK, Go.kD, PyData.depth]
    rw [this]
    show A.units + 2 + 0 < cLine
    omega
  · have eo := PySem.W.sortVals_data (h' := PySem.W.sortingHeap (s1.heap.push (seqObj "list" vs.toArray 0)) s1.heap.objs.size vs) false (each_keys2 kv) (er _) (alike_keys ok1)
    obtain ⟨c, hc⟩ := sortedHeap_at (vs := vs) (out := (PySem.W.sortVals (PySem.W.dataKind (PySem.W.sortingHeap (s1.heap.push (seqObj "list" vs.toArray 0)) s1.heap.objs.size vs) ((vs.map keyAt).map dK)) false vs vs).toArray) oL
    refine wpAny_pure ⟨_, rfl, hQ _ s1.heap.objs.size _ c _ (vs.map keyAt) (fun b u e => ?_) g1 o1 z1 hc (keys_each2 eo) rfl (pk.nodup_iff.mpr nd) mem (by rw [List.length_map]; exact lv)⟩
    have q := k1 b u e
    have lt2 := Heap.lt_size q
    show (sortedHeap (s1.heap.push (seqObj "list" vs.toArray 0)) s1.heap.objs.size vs _).get? b = some u
    rw [sortedHeap_old (Nat.ne_of_lt lt2) (by rw [size_push']; exact Nat.lt_succ_of_lt lt2)]
    exact Heap.get?_push_of_some _ q
end
end SetMix
/-! zip of two and three, enumerate, over lists and tuples in any mix; the new tuples tracked. -/
namespace ZipE
open PySem PySem.Spec PyProof.Rows L2
def SqK (K : PySem.W.Frag) (H : Hp) : Bool → Addr → List V → Prop
  | true, a, xs => SqT K H a xs
  | false, a, xs => SqL K H a xs
def itAt : Bool → Heap → Addr → Addr → Nat → Prop
  | true, h, it, a, i => h.IsTupleIter it a i
  | false, h, it, a, i => h.IsListIter it a i
def isSeq : Bool → Heap → Addr → Array Value → Prop
  | true, h, a, its => h.IsTuple a its
  | false, h, a, its => h.IsList a its
def itObj : Bool → Addr → Obj
  | true, a => { cls := .type "tuple_iterator", data := .fields #[.ref a, .int 0 0] }
  | false, a => { cls := .type "list_iterator", data := .fields #[.ref a, .int 0 0] }
theorem itAt_new {k : Bool} {h : Heap} {it a : Addr} (e : h.get? it = some (itObj k a)) : itAt k h it a 0 := by
  cases k
  · exact ⟨_, e, rfl, rfl⟩
  · exact ⟨_, e, rfl, rfl⟩
theorem itAt_ob {k : Bool} {h : Heap} {it a : Addr} {i : Nat} (x : itAt k h it a i) : ∃ o, h.get? it = some o ∧ ∀ v, o.data ≠ .cell v := by
  cases k
  · obtain ⟨o, e, _, d⟩ := x
    exact ⟨o, e, fun v q => by rw [d] at q; cases q⟩
  · obtain ⟨o, e, _, d⟩ := x
    exact ⟨o, e, fun v q => by rw [d] at q; cases q⟩
theorem itAt_keep {k : Bool} {h h' : Heap} {it a : Addr} {i : Nat} (x : itAt k h it a i) (f : ∀ o, h.get? it = some o → h'.get? it = some o) : itAt k h' it a i := by
  cases k
  · exact Heap.IsListIter.at x f
  · exact Heap.IsTupleIter.at x f
theorem drawK {P : Program} {w : World} {A : Around} (hh : A.handled = none) (k : Bool) (it a : Addr) (hne : a ≠ it) (its : Array Value) :
    Draws P w A it [it, a] its.size (fun i v => its[i]? = some v) (fun i h => itAt k h it a i ∧ isSeq k h a its) := by
  cases k
  · exact Draws.list hh it a hne its
  · exact Draws.tuple hh it a hne its
theorem beginK (k : Bool) (a : Addr) (its : Array Value) : Begins (.ref a) (itObj k a) fun h => isSeq k h a its := by
  cases k
  · exact begins_list a its
  · exact begins_tuple a its
section
variable {X : Cx} {pins : List (Addr × Obj)} {σ : L2.St} {H : Hp} {s : Shared}
theorem seqK (I : Inv X pins σ H s) {k : Bool} {a : Addr} {xs : List V} (h : SqK X.K H k a xs) : ∃ its : List Value, Vals xs its ∧ isSeq k s.heap a its.toArray ∧ a < s.heap.objs.size := by
  cases k
  · obtain ⟨its, r, p, _⟩ := I.list h
    exact ⟨its, r, p.isList, p.lt⟩
  · obtain ⟨its, r, p, _⟩ := I.tuple h
    have p2 := p
    obtain ⟨o, e, _⟩ := p
    exact ⟨its, r, p2, Heap.lt_size e⟩
theorem sqK_inj (I : Inv X pins σ H s) {k : Bool} {a : Addr} {xs ys : List V} (h : SqK X.K H k a xs) (h' : SqK X.K H k a ys) : xs = ys := by
  cases k
  · exact I.list_inj h h'
  · exact I.tuple_inj h h'
end
theorem lt_fp {N a : Nat} (h : a < N) : ∀ b ∈ [a], b < N := fun b m => by
  rw [List.mem_singleton] at m
  rw [m]; exact h
/-! ### three -/
def It3 (K : PySem.W.Frag) (k1 k2 k3 : Bool) (a b c : Addr) : It :=
  ⟨fun i H => ∃ xs ys zs : List V, SqK K H k1 a xs ∧ SqK K H k2 b ys ∧ SqK K H k3 c zs ∧ i < xs.length ∧ i < ys.length ∧ i < zs.length,
    fun i H v H' => ∃ T x y z, v = .ref T ∧ H T = none ∧ H' = upd H T (.tup [x, y, z]) ∧ (∀ xs, SqK K H k1 a xs → xs[i]? = some x) ∧ (∀ ys, SqK K H k2 b ys → ys[i]? = some y) ∧ ∀ zs, SqK K H k3 c zs → zs[i]? = some z,
    fun i H => ∃ xs ys zs : List V, SqK K H k1 a xs ∧ SqK K H k2 b ys ∧ SqK K H k3 c zs ∧ i = min (min xs.length ys.length) zs.length⟩
theorem turn3 {P : Program} {w : World} {K : PySem.W.Frag} {elts : List Expr} {kk : Nat} {tpos : Pos} {k1 k2 k3 : Bool} {a b c z TI TO i1 i2 i3 : Addr} (S : ZipSep3 z TI TO i1 i2 i3 [i1, a] [i2, b] [i3, c]) (n1 : a ≠ i1) (n2 : b ≠ i2) (n3 : c ≠ i3) :
    Turn P w K (.Tuple elts kk tpos) (It3 K k1 k2 k3 a b c) [z, TI, TO, i1, i2, i3] z
      (fun i h => IsZip h z TI TO .none ∧ IsTupOf3 h TI (.ref i1) (.ref i2) (.ref i3) ∧ (∃ x y u, IsTupOf3 h TO x y u) ∧ itAt k1 h i1 a i ∧ itAt k2 h i2 b i ∧ itAt k3 h i3 c i) where
  mem := by simp
  obj := fun i h st q hq => by
    obtain ⟨hz, hI, ⟨x, y, u, hO⟩, h1, h2, h3⟩ := st
    have e' : q = z ∨ q = TI ∨ q = TO ∨ q = i1 ∨ q = i2 ∨ q = i3 := by simpa using hq
    rcases e' with e | e | e | e | e | e <;> rw [e]
    · exact ⟨_, hz, fun v q => nomatch q⟩
    · exact ⟨_, hI, fun v q => nomatch q⟩
    · exact ⟨_, hO, fun v q => nomatch q⟩
    · exact itAt_ob h1
    · exact itAt_ob h2
    · exact itAt_ob h3
  keep := fun i h h' st f => by
    obtain ⟨hz, hI, ⟨x, y, u, hO⟩, h1, h2, h3⟩ := st
    exact ⟨f z (by simp) _ hz, f TI (by simp) _ hI, ⟨x, y, u, f TO (by simp) _ hO⟩, itAt_keep h1 fun o q => f i1 (by simp) o q, itAt_keep h2 fun o q => f i2 (by simp) o q, itAt_keep h3 fun o q => f i3 (by simp) o q⟩
  item := by
    intro X hP hw hK hc i pins s σ H E I hf st hg
    subst hP hw hK
    obtain ⟨xs, ys, zs, q1, q2, q3, l1, l2, l3⟩ := hg
    obtain ⟨is1, r1, p1, _⟩ := seqK I q1
    obtain ⟨is2, r2, p2, _⟩ := seqK I q2
    obtain ⟨is3, r3, p3, _⟩ := seqK I q3
    have hh : X.A.in1.handled = none := by simp [I.ok.hd hc]
    have G := GoesN.zip3 (elts := elts) (x1 := kk) (pos := tpos) S (drawK (P := X.prog) (w := X.w) hh k1 i1 a n1 is1.toArray) (drawK hh k2 i2 b n2 is2.toArray) (drawK hh k3 i3 c n3 is3.toArray)
    have lt : i < min (min is1.toArray.size is2.toArray.size) is3.toArray.size := by
      have a1 := r1.length
      have a2 := r2.length
      have a3 := r3.length
      simp only [List.size_toArray]
      omega
    refine G.goes i s _ _ lt ⟨st.1, st.2.1, st.2.2.1, ⟨st.2.2.2.1, p1⟩, ⟨st.2.2.2.2.1, p2⟩, ⟨st.2.2.2.2.2, p3⟩⟩ fun v h' tk hY hst hk _ => ?_
    obtain ⟨T, x, y, u, rfl, hT, gx, gy, gu, tT⟩ := hY
    obtain ⟨vx, ex, rx⟩ : ∃ vx, xs[i]? = some vx ∧ RelV vx x := by
      obtain ⟨u', e1, e2⟩ := r1.get (List.getElem?_eq_getElem l1)
      rw [List.getElem?_toArray] at gx
      rw [gx] at e1
      cases e1
      exact ⟨_, List.getElem?_eq_getElem l1, e2⟩
    obtain ⟨vy, ey, ry⟩ : ∃ vy, ys[i]? = some vy ∧ RelV vy y := by
      obtain ⟨u', e1, e2⟩ := r2.get (List.getElem?_eq_getElem l2)
      rw [List.getElem?_toArray] at gy
      rw [gy] at e1
      cases e1
      exact ⟨_, List.getElem?_eq_getElem l2, e2⟩
    obtain ⟨vu, eu, ru⟩ : ∃ vu, zs[i]? = some vu ∧ RelV vu u := by
      obtain ⟨u', e1, e2⟩ := r3.get (List.getElem?_eq_getElem l3)
      rw [List.getElem?_toArray] at gu
      rw [gu] at e1
      cases e1
      exact ⟨_, List.getElem?_eq_getElem l3, e2⟩
    have new : ObjOk X.prog X.w (upd H T (.tup [vx, vy, vu])) h' T (.tup [vx, vy, vu]) := ⟨by show 3 ≤ sizeLine; decide, [x, y, u], .cons rx (.cons ry (.cons ru .nil)), tT⟩
    have hf' : ∀ b ∈ [z, TO, i1, i2, i3], FpOk X pins H b := fun b hb => hf b (by
      have e' : b = z ∨ b = TO ∨ b = i1 ∨ b = i2 ∨ b = i3 := by simpa using hb
      rcases e' with e | e | e | e | e <;> simp [e])
    have I1 := I.turnedNew (t' := tk) (ch := [z, TO, i1, i2, i3]) hk hf' hT new
    refine ⟨.ref T, _, I1, rfl, ⟨T, vx, vy, vu, rfl, I.hok.fresh hT, rfl, fun l hl => by rw [sqK_inj I hl q1]; exact ex, fun l hl => by rw [sqK_inj I hl q2]; exact ey, fun l hl => by rw [sqK_inj I hl q3]; exact eu⟩, ⟨hst.1, hst.2.1, hst.2.2.1, hst.2.2.2.1.1, hst.2.2.2.2.1.1, hst.2.2.2.2.2.1⟩, fun q hq => ?_⟩
    have hlt : q < s.heap.objs.size := by
      have e' : q = z ∨ q = TI ∨ q = TO ∨ q = i1 ∨ q = i2 ∨ q = i3 := by simpa using hq
      obtain ⟨hz, hI, ⟨_, _, _, hO⟩, h1, h2, h3⟩ := st
      rcases e' with e | e | e | e | e | e <;> rw [e]
      · exact Heap.lt_size hz
      · exact Heap.lt_size hI
      · exact Heap.lt_size hO
      · obtain ⟨_, w1, _⟩ := itAt_ob h1; exact Heap.lt_size w1
      · obtain ⟨_, w1, _⟩ := itAt_ob h2; exact Heap.lt_size w1
      · obtain ⟨_, w1, _⟩ := itAt_ob h3; exact Heap.lt_size w1
    rw [upd_ne (Nat.ne_of_lt (Nat.lt_of_lt_of_le hlt hT))]
    exact (hf q hq).1
  done := by
    intro X hP hw hK hc i pins s σ H E I hf st hg
    subst hP hw hK
    obtain ⟨xs, ys, zs, q1, q2, q3, ei⟩ := hg
    obtain ⟨is1, r1, p1, _⟩ := seqK I q1
    obtain ⟨is2, r2, p2, _⟩ := seqK I q2
    obtain ⟨is3, r3, p3, _⟩ := seqK I q3
    have hh : X.A.in1.handled = none := by simp [I.ok.hd hc]
    have G := GoesN.zip3 (elts := elts) (x1 := kk) (pos := tpos) S (drawK (P := X.prog) (w := X.w) hh k1 i1 a n1 is1.toArray) (drawK hh k2 i2 b n2 is2.toArray) (drawK hh k3 i3 c n3 is3.toArray)
    have en : i = min (min is1.toArray.size is2.toArray.size) is3.toArray.size := by
      have a1 := r1.length
      have a2 := r2.length
      have a3 := r3.length
      simp only [List.size_toArray]
      omega
    have st' := st
    rw [en] at st'
    refine G.stops s _ _ ⟨st'.1, st'.2.1, st'.2.2.1, ⟨st'.2.2.2.1, p1⟩, ⟨st'.2.2.2.2.1, p2⟩, ⟨st'.2.2.2.2.2, p3⟩⟩ fun h' tk hk _ => I.turnedL (t' := tk) (ch := [z, TO, i1, i2, i3]) hk fun b hb => hf b (by
      have e' : b = z ∨ b = TO ∨ b = i1 ∨ b = i2 ∨ b = i3 := by simpa using hb
      rcases e' with e | e | e | e | e <;> simp [e])
  self := fun A i s Q E st h => wpAny_pyIter_zip st.1 h
def iZip3 (K : PySem.W.Frag) (ta : TA) : TI := fun σ H R => ta σ H fun vs H1 => ∃ k1 k2 k3 a b c xs ys zs, vs = [.ref a, .ref b, .ref c] ∧ SqK K H1 k1 a xs ∧ SqK K H1 k2 b ys ∧ SqK K H1 k3 c zs ∧ R (It3 K k1 k2 k3 a b c) H1
theorem pi_zip3 {X : Cx} {e e2 e3 : Expr} {ta : TA} {p pos tpos : Pos} {elts : List Expr} {kk : Nat} (hg : Gl X "zip") (hm : X.mg "zip" = none) (ha : PA X [e, e2, e3] ta)
    (hs : starEach [e, e2, e3] X.env = (false, eval e X.env) :: starEach [e2, e3] X.env := by rfl) (hpl : (backTo pos (starEach [e2, e3] X.env)).any (·.1) = false := by rfl) :
    PI X (.Tuple elts kk tpos) (.Call (.Name "zip" p) [e, e2, e3] [] pos) (iZip3 X.K ta) := by
  refine ⟨fun pins s σ H R I h => ?_⟩
  refine Call_ (ld_blt I hg hm PyProof.Rows.boot_zip (PyProof.Rows.callWith_type1 (thn (ha.run pos pins s σ H _ I h) fun us s1 ⟨vs, H1, I1, r1, q1⟩ => ?_) hs hpl))
  obtain ⟨k1, k2, k3, a, b, c, xs, ys, zs, ev, w1, w2, w3, q⟩ := q1
  subst ev
  cases r1 with
  | cons g1 t1 =>
    cases t1 with
    | cons g2 t2 =>
      cases t2 with
      | cons g3 t3 =>
        cases t3
        cases g1
        cases g2
        cases g3
        obtain ⟨is1, _, p1, b1⟩ := seqK I1 w1
        obtain ⟨is2, _, p2, b2⟩ := seqK I1 w2
        obtain ⟨is3, _, p3, b3⟩ := seqK I1 w3
        refine zip_begins3 (beginK k1 a is1.toArray) (beginK k2 b is2.toArray) (beginK k3 c is3.toArray) p1 p2 p3 fun h' hz hI hO g1 g2 g3 _ hk => wpAny_pyIter_zip hz ?_
        have I2 : Inv X pins σ H1 { s1 with heap := h' } := I1.kept (t' := s1.toks) hk
        refine ⟨s1.heap.objs.size + 5, [s1.heap.objs.size + 5, s1.heap.objs.size + 3, s1.heap.objs.size + 4, s1.heap.objs.size, s1.heap.objs.size + 1, s1.heap.objs.size + 2], _, _, H1, rfl, I2,
          turn3 (zip_sep3 (lt_fp b1) (lt_fp b2) (lt_fp b3)) (Nat.ne_of_lt b1) (Nat.ne_of_lt (Nat.lt_succ_of_lt b2)) (Nat.ne_of_lt (Nat.lt_succ_of_lt (Nat.lt_succ_of_lt b3))), ⟨hz, hI, ⟨_, _, _, hO⟩, itAt_new g1, itAt_new g2, itAt_new g3⟩, fun d hd => ?_, q⟩
        have hle : s1.heap.objs.size ≤ d := by
          have e' : d = s1.heap.objs.size + 5 ∨ d = s1.heap.objs.size + 3 ∨ d = s1.heap.objs.size + 4 ∨ d = s1.heap.objs.size ∨ d = s1.heap.objs.size + 1 ∨ d = s1.heap.objs.size + 2 := by simpa using hd
          rcases e' with z | z | z | z | z | z <;> rw [z] <;> first | exact Nat.le_refl _ | exact Nat.le_add_right _ _
        exact I1.fpOk hle (I1.hok.fresh hle)
end ZipE
namespace ZipE
open PySem PySem.Spec PyProof.Rows L2
/-! ### two -/
def It2 (K : PySem.W.Frag) (k1 k2 : Bool) (a b : Addr) : It :=
  ⟨fun i H => ∃ xs ys : List V, SqK K H k1 a xs ∧ SqK K H k2 b ys ∧ i < xs.length ∧ i < ys.length,
    fun i H v H' => ∃ T x y, v = .ref T ∧ H T = none ∧ H' = upd H T (.tup [x, y]) ∧ (∀ xs, SqK K H k1 a xs → xs[i]? = some x) ∧ ∀ ys, SqK K H k2 b ys → ys[i]? = some y,
    fun i H => ∃ xs ys : List V, SqK K H k1 a xs ∧ SqK K H k2 b ys ∧ i = min xs.length ys.length⟩
theorem turn2 {P : Program} {w : World} {K : PySem.W.Frag} {elts : List Expr} {kk : Nat} {tpos : Pos} {k1 k2 : Bool} {a b z TI TO i1 i2 : Addr} (S : ZipSep2 z TI TO i1 i2 [i1, a] [i2, b]) (n1 : a ≠ i1) (n2 : b ≠ i2) :
    Turn P w K (.Tuple elts kk tpos) (It2 K k1 k2 a b) [z, TI, TO, i1, i2] z
      (fun i h => IsZip h z TI TO .none ∧ IsTupOf2 h TI (.ref i1) (.ref i2) ∧ (∃ x y, IsTupOf2 h TO x y) ∧ itAt k1 h i1 a i ∧ itAt k2 h i2 b i) where
  mem := by simp
  obj := fun i h st q hq => by
    obtain ⟨hz, hI, ⟨x, y, hO⟩, h1, h2⟩ := st
    have e' : q = z ∨ q = TI ∨ q = TO ∨ q = i1 ∨ q = i2 := by simpa using hq
    rcases e' with e | e | e | e | e <;> rw [e]
    · exact ⟨_, hz, fun v q => nomatch q⟩
    · exact ⟨_, hI, fun v q => nomatch q⟩
    · exact ⟨_, hO, fun v q => nomatch q⟩
    · exact itAt_ob h1
    · exact itAt_ob h2
  keep := fun i h h' st f => by
    obtain ⟨hz, hI, ⟨x, y, hO⟩, h1, h2⟩ := st
    exact ⟨f z (by simp) _ hz, f TI (by simp) _ hI, ⟨x, y, f TO (by simp) _ hO⟩, itAt_keep h1 fun o q => f i1 (by simp) o q, itAt_keep h2 fun o q => f i2 (by simp) o q⟩
  item := by
    intro X hP hw hK hc i pins s σ H E I hf st hg
    subst hP hw hK
    obtain ⟨xs, ys, q1, q2, l1, l2⟩ := hg
    obtain ⟨is1, r1, p1, _⟩ := seqK I q1
    obtain ⟨is2, r2, p2, _⟩ := seqK I q2
    have hh : X.A.in1.handled = none := by simp [I.ok.hd hc]
    have G := GoesN.zip2 (elts := elts) (x1 := kk) (pos := tpos) S (drawK (P := X.prog) (w := X.w) hh k1 i1 a n1 is1.toArray) (drawK hh k2 i2 b n2 is2.toArray)
    have lt : i < min is1.toArray.size is2.toArray.size := by
      have a1 := r1.length
      have a2 := r2.length
      simp only [List.size_toArray]
      omega
    refine G.goes i s _ _ lt ⟨st.1, st.2.1, st.2.2.1, ⟨st.2.2.2.1, p1⟩, ⟨st.2.2.2.2, p2⟩⟩ fun v h' tk hY hst hk _ => ?_
    obtain ⟨T, x, y, rfl, hT, gx, gy, tT⟩ := hY
    obtain ⟨vx, ex, rx⟩ : ∃ vx, xs[i]? = some vx ∧ RelV vx x := by
      obtain ⟨u', e1, e2⟩ := r1.get (List.getElem?_eq_getElem l1)
      rw [List.getElem?_toArray] at gx
      rw [gx] at e1
      cases e1
      exact ⟨_, List.getElem?_eq_getElem l1, e2⟩
    obtain ⟨vy, ey, ry⟩ : ∃ vy, ys[i]? = some vy ∧ RelV vy y := by
      obtain ⟨u', e1, e2⟩ := r2.get (List.getElem?_eq_getElem l2)
      rw [List.getElem?_toArray] at gy
      rw [gy] at e1
      cases e1
      exact ⟨_, List.getElem?_eq_getElem l2, e2⟩
    have new : ObjOk X.prog X.w (upd H T (.tup [vx, vy])) h' T (.tup [vx, vy]) := ⟨by show 2 ≤ sizeLine; decide, [x, y], .cons rx (.cons ry .nil), tT⟩
    have hf' : ∀ b ∈ [z, TO, i1, i2], FpOk X pins H b := fun b hb => hf b (by
      have e' : b = z ∨ b = TO ∨ b = i1 ∨ b = i2 := by simpa using hb
      rcases e' with e | e | e | e <;> simp [e])
    have I1 := I.turnedNew (t' := tk) (ch := [z, TO, i1, i2]) hk hf' hT new
    refine ⟨.ref T, _, I1, rfl, ⟨T, vx, vy, rfl, I.hok.fresh hT, rfl, fun l hl => by rw [sqK_inj I hl q1]; exact ex, fun l hl => by rw [sqK_inj I hl q2]; exact ey⟩, ⟨hst.1, hst.2.1, hst.2.2.1, hst.2.2.2.1.1, hst.2.2.2.2.1⟩, fun q hq => ?_⟩
    have hlt : q < s.heap.objs.size := by
      have e' : q = z ∨ q = TI ∨ q = TO ∨ q = i1 ∨ q = i2 := by simpa using hq
      obtain ⟨hz, hI, ⟨_, _, hO⟩, h1, h2⟩ := st
      rcases e' with e | e | e | e | e <;> rw [e]
      · exact Heap.lt_size hz
      · exact Heap.lt_size hI
      · exact Heap.lt_size hO
      · obtain ⟨_, w1, _⟩ := itAt_ob h1; exact Heap.lt_size w1
      · obtain ⟨_, w1, _⟩ := itAt_ob h2; exact Heap.lt_size w1
    rw [upd_ne (Nat.ne_of_lt (Nat.lt_of_lt_of_le hlt hT))]
    exact (hf q hq).1
  done := by
    intro X hP hw hK hc i pins s σ H E I hf st hg
    subst hP hw hK
    obtain ⟨xs, ys, q1, q2, ei⟩ := hg
    obtain ⟨is1, r1, p1, _⟩ := seqK I q1
    obtain ⟨is2, r2, p2, _⟩ := seqK I q2
    have hh : X.A.in1.handled = none := by simp [I.ok.hd hc]
    have G := GoesN.zip2 (elts := elts) (x1 := kk) (pos := tpos) S (drawK (P := X.prog) (w := X.w) hh k1 i1 a n1 is1.toArray) (drawK hh k2 i2 b n2 is2.toArray)
    have en : i = min is1.toArray.size is2.toArray.size := by
      have a1 := r1.length
      have a2 := r2.length
      simp only [List.size_toArray]
      omega
    have st' := st
    rw [en] at st'
    refine G.stops s _ _ ⟨st'.1, st'.2.1, st'.2.2.1, ⟨st'.2.2.2.1, p1⟩, ⟨st'.2.2.2.2, p2⟩⟩ fun h' tk hk _ => I.turnedL (t' := tk) (ch := [z, TO, i1, i2]) hk fun b hb => hf b (by
      have e' : b = z ∨ b = TO ∨ b = i1 ∨ b = i2 := by simpa using hb
      rcases e' with e | e | e | e <;> simp [e])
  self := fun A i s Q E st h => wpAny_pyIter_zip st.1 h
def iZip2 (K : PySem.W.Frag) (ta : TA) : TI := fun σ H R => ta σ H fun vs H1 => ∃ k1 k2 a b xs ys, vs = [.ref a, .ref b] ∧ SqK K H1 k1 a xs ∧ SqK K H1 k2 b ys ∧ R (It2 K k1 k2 a b) H1
theorem pi_zip2 {X : Cx} {e e2 : Expr} {ta : TA} {p pos tpos : Pos} {elts : List Expr} {kk : Nat} (hg : Gl X "zip") (hm : X.mg "zip" = none) (ha : PA X [e, e2] ta)
    (hs : starEach [e, e2] X.env = (false, eval e X.env) :: starEach [e2] X.env := by rfl) (hpl : (backTo pos (starEach [e2] X.env)).any (·.1) = false := by rfl) :
    PI X (.Tuple elts kk tpos) (.Call (.Name "zip" p) [e, e2] [] pos) (iZip2 X.K ta) := by
  refine ⟨fun pins s σ H R I h => ?_⟩
  refine Call_ (ld_blt I hg hm PyProof.Rows.boot_zip (PyProof.Rows.callWith_type1 (thn (ha.run pos pins s σ H _ I h) fun us s1 ⟨vs, H1, I1, r1, q1⟩ => ?_) hs hpl))
  obtain ⟨k1, k2, a, b, xs, ys, ev, w1, w2, q⟩ := q1
  subst ev
  cases r1 with
  | cons g1 t1 =>
    cases t1 with
    | cons g2 t2 =>
      cases t2
      cases g1
      cases g2
      obtain ⟨is1, _, p1, b1⟩ := seqK I1 w1
      obtain ⟨is2, _, p2, b2⟩ := seqK I1 w2
      refine zip_begins2 (beginK k1 a is1.toArray) (beginK k2 b is2.toArray) p1 p2 fun h' hz hI hO g1 g2 _ hk => wpAny_pyIter_zip hz ?_
      have I2 : Inv X pins σ H1 { s1 with heap := h' } := I1.kept (t' := s1.toks) hk
      refine ⟨s1.heap.objs.size + 4, [s1.heap.objs.size + 4, s1.heap.objs.size + 2, s1.heap.objs.size + 3, s1.heap.objs.size, s1.heap.objs.size + 1], _, _, H1, rfl, I2,
        turn2 (zip_sep2 (lt_fp b1) (lt_fp b2)) (Nat.ne_of_lt b1) (Nat.ne_of_lt (Nat.lt_succ_of_lt b2)), ⟨hz, hI, ⟨_, _, hO⟩, itAt_new g1, itAt_new g2⟩, fun d hd => ?_, q⟩
      have hle : s1.heap.objs.size ≤ d := by
        have e' : d = s1.heap.objs.size + 4 ∨ d = s1.heap.objs.size + 2 ∨ d = s1.heap.objs.size + 3 ∨ d = s1.heap.objs.size ∨ d = s1.heap.objs.size + 1 := by simpa using hd
        rcases e' with z | z | z | z | z <;> rw [z] <;> first | exact Nat.le_refl _ | exact Nat.le_add_right _ _
      exact I1.fpOk hle (I1.hok.fresh hle)
/-! ### enumerate -/
theorem meets_enum1 {v : Value} {o : Obj} {HH : Heap → Prop} (B : Begins v o HH) :
    Meets (Builtin.«enumerate.__new__» ⟨[.type "enumerate", v], []⟩) (fun _ R s => HH s.heap ∧
      R (.ok (.ret (.ref (s.heap.push o).objs.size))) { s with heap := (s.heap.push o).push { cls := .type "enumerate", data := .fields #[.none, .bool false, .ref s.heap.objs.size, rawInt 0, .none, .none] } }) :=
  .of_wp fun prog w A R s h => by
    obtain ⟨hp, g, d, tk, os⟩ := s
    obtain ⟨h1, h⟩ := h
    have sb := sub_enumerate
    have q1 : ∀ {A' : Around} {E : Value → Shared → Prop} {Q : Value → Shared → Prop}, Q (.ref hp.objs.size) ⟨hp.push o, g, d, tk, os⟩ → wpAny (model prog w) A' (pyIter v) Q E ⟨hp, g, d, tk, os⟩ := fun q => B.iter prog w _ _ ⟨hp, g, d, tk, os⟩ _ h1 q
    wp_walk using q1
    refine wpAny_stack_any fun st => wpAny_pure ?_
    split
    · rename_i c _ _ _ _ _
      cases (c == Value.type "enumerate")
      all_goals
        wp_walk using q1
        exact ⟨_, rfl, h⟩
    · wp_walk using q1
      exact ⟨_, rfl, h⟩
theorem call_enum1 {prog : Program} {w : World} {A : Around} {E : Value → Shared → Prop} {s : Shared} {v : Value} {o : Obj} {HH : Heap → Prop} {Q : Value → Shared → Prop} (B : Begins v o HH) (h1 : HH s.heap)
    (h : ∀ h', IsEnum h' (s.heap.objs.size + 1) s.heap.objs.size 0 .none → h'.get? s.heap.objs.size = some o → (∀ b o, s.heap.get? b = some o → h'.get? b = some o) → Q (.ref (s.heap.objs.size + 1)) { s with heap := h' }) :
    wpAny (model prog w) A (call (.type "enumerate") [v]) Q E s := by
  refine callType_new F.called_enumerate (by decide) (F.typeCall_enumerate_1 _) (F.newCall_enumerate_1 _) (fun obj => F.args_object_init_2 obj _) F.entry_enumerate_new (meets_enum1 B) ⟨h1, ?_⟩
  have hz : (s.heap.push o).objs.size = s.heap.objs.size + 1 := Heap.size_push ..
  have he := Heap.get?_push_size (s.heap.push o) (o := { cls := .type "enumerate", data := .fields #[.none, .bool false, .ref s.heap.objs.size, rawInt 0, .none, .none] }) rfl
  show _ ∧ _
  rw [hz] at he ⊢
  exact ⟨⟨_, he, rfl⟩, h _ he (Heap.get?_push_of_some _ (Heap.get?_push_size _ B.free)) fun b o x => Heap.get?_push_of_some _ (Heap.get?_push_of_some _ x)⟩
def It1 (K : PySem.W.Frag) (k1 : Bool) (a : Addr) : It :=
  ⟨fun i H => ∃ xs : List V, SqK K H k1 a xs ∧ i < xs.length,
    fun i H v H' => ∃ T x, v = .ref T ∧ H T = none ∧ H' = upd H T (.tup [.int (i : Nat), x]) ∧ ∀ xs, SqK K H k1 a xs → xs[i]? = some x,
    fun i H => ∃ xs : List V, SqK K H k1 a xs ∧ i = xs.length⟩
theorem turn1 {P : Program} {w : World} {K : PySem.W.Frag} {elts : List Expr} {kk : Nat} {tpos : Pos} {k1 : Bool} {a e it : Addr} (ne : e ≠ it) (nf : e ∉ [it, a]) (n1 : a ≠ it) :
    Turn P w K (.Tuple elts kk tpos) (It1 K k1 a) [e, it] e (fun i h => (∃ old, IsEnum h e it ((0 : Int) + (i : Int)) old) ∧ itAt k1 h it a i) where
  mem := by simp
  obj := fun i h st q hq => by
    obtain ⟨⟨old, he⟩, h1⟩ := st
    have e' : q = e ∨ q = it := by simpa using hq
    rcases e' with z | z <;> rw [z]
    · exact ⟨_, he, fun v q => nomatch q⟩
    · exact itAt_ob h1
  keep := fun i h h' st f => by
    obtain ⟨⟨old, he⟩, h1⟩ := st
    exact ⟨⟨old, f e (by simp) _ he⟩, itAt_keep h1 fun o q => f it (by simp) o q⟩
  item := by
    intro X hP hw hK hc i pins s σ H E I hf st hg
    subst hP hw hK
    obtain ⟨xs, q1, l1⟩ := hg
    obtain ⟨is1, r1, p1, _⟩ := seqK I q1
    have hh : X.A.in1.handled = none := by simp [I.ok.hd hc]
    have G := GoesN.enumFrom (elts := elts) (x1 := kk) (pos := tpos) 0 (drawK (P := X.prog) (w := X.w) hh k1 it a n1 is1.toArray) e ne nf (by simp)
    have lt : i < is1.toArray.size := by
      have a1 := r1.length
      simp only [List.size_toArray]
      omega
    refine G.goes i s _ _ lt ⟨st.1, st.2, p1⟩ fun v h' tk hY hst hk _ => ?_
    obtain ⟨T, t, x, rfl, hT, gx, tT⟩ := hY
    obtain ⟨vx, ex, rx⟩ : ∃ vx, xs[i]? = some vx ∧ RelV vx x := by
      obtain ⟨u', e1, e2⟩ := r1.get (List.getElem?_eq_getElem l1)
      rw [List.getElem?_toArray] at gx
      rw [gx] at e1
      cases e1
      exact ⟨_, List.getElem?_eq_getElem l1, e2⟩
    have ei : (0 : Int) + (i : Int) = (i : Int) := Int.zero_add _
    rw [ei] at tT
    have new : ObjOk X.prog X.w (upd H T (.tup [.int (i : Nat), vx])) h' T (.tup [.int (i : Nat), vx]) := ⟨by show 2 ≤ sizeLine; decide, [.int (i : Nat) t, x], .cons ⟨t, rfl⟩ (.cons rx .nil), tT⟩
    have I1 := I.turnedNew (t' := tk) (ch := [e, it]) hk hf hT new
    refine ⟨.ref T, _, I1, rfl, ⟨T, vx, rfl, I.hok.fresh hT, rfl, fun l hl => by rw [sqK_inj I hl q1]; exact ex⟩, ⟨hst.1, hst.2.1⟩, fun q hq => ?_⟩
    have hlt : q < s.heap.objs.size := by
      have e' : q = e ∨ q = it := by simpa using hq
      obtain ⟨⟨_, he⟩, h1⟩ := st
      rcases e' with z | z <;> rw [z]
      · exact Heap.lt_size he
      · obtain ⟨_, w1, _⟩ := itAt_ob h1; exact Heap.lt_size w1
    rw [upd_ne (Nat.ne_of_lt (Nat.lt_of_lt_of_le hlt hT))]
    exact (hf q hq).1
  done := by
    intro X hP hw hK hc i pins s σ H E I hf st hg
    subst hP hw hK
    obtain ⟨xs, q1, ei⟩ := hg
    obtain ⟨is1, r1, p1, _⟩ := seqK I q1
    have hh : X.A.in1.handled = none := by simp [I.ok.hd hc]
    have G := GoesN.enumFrom (elts := elts) (x1 := kk) (pos := tpos) 0 (drawK (P := X.prog) (w := X.w) hh k1 it a n1 is1.toArray) e ne nf (by simp)
    have en : i = is1.toArray.size := by
      have a1 := r1.length
      simp only [List.size_toArray]
      omega
    have st' := st
    rw [en] at st'
    exact G.stops s _ _ ⟨st'.1, st'.2, p1⟩ fun h' tk hk _ => I.turnedL (t' := tk) (ch := [e, it]) hk hf
  self := fun A i s Q E st h => let ⟨⟨_, he⟩, _⟩ := st; wpAny_pyIter_enum he h
def iEnum1 (K : PySem.W.Frag) (ta : TA) : TI := fun σ H R => ta σ H fun vs H1 => ∃ k1 a xs, vs = [.ref a] ∧ SqK K H1 k1 a xs ∧ R (It1 K k1 a) H1
theorem pi_enum1 {X : Cx} {e : Expr} {ta : TA} {p pos tpos : Pos} {elts : List Expr} {kk : Nat} (hg : Gl X "enumerate") (hm : X.mg "enumerate" = none) (ha : PA X [e] ta) (hs : starEach [e] X.env = [(false, eval e X.env)] := by rfl) :
    PI X (.Tuple elts kk tpos) (.Call (.Name "enumerate" p) [e] [] pos) (iEnum1 X.K ta) := by
  refine ⟨fun pins s σ H R I h => ?_⟩
  refine Call_ (ld_blt I hg hm boot_enumerate (PyProof.Rows.callWith_type1 (thn (ha.run pos pins s σ H _ I h) fun us s1 ⟨vs, H1, I1, r1, q1⟩ => ?_) hs rfl))
  obtain ⟨k1, a, xs, ev, w1, q⟩ := q1
  subst ev
  cases r1 with
  | cons g1 t1 =>
    cases t1
    cases g1
    obtain ⟨is1, _, p1, b1⟩ := seqK I1 w1
    refine call_enum1 (beginK k1 a is1.toArray) p1 fun h' he g1 hk => wpAny_pyIter_enum he ?_
    have I2 : Inv X pins σ H1 { s1 with heap := h' } := I1.kept (t' := s1.toks) hk
    refine ⟨s1.heap.objs.size + 1, [s1.heap.objs.size + 1, s1.heap.objs.size], _, _, H1, rfl, I2, turn1 (Nat.succ_ne_self _) (fun m => ?_) (Nat.ne_of_lt b1), ⟨⟨.none, he⟩, itAt_new g1⟩, fun d hd => ?_, q⟩
    · rcases List.mem_cons.mp m with z | z
      · exact Nat.succ_ne_self _ z
      · rw [List.mem_singleton] at z
        exact absurd z (Nat.ne_of_gt (Nat.lt_succ_of_lt b1))
    · have hle : s1.heap.objs.size ≤ d := by
        have e' : d = s1.heap.objs.size + 1 ∨ d = s1.heap.objs.size := by simpa using hd
        rcases e' with z | z <;> rw [z] <;> first | exact Nat.le_refl _ | exact Nat.le_add_right _ _
      exact I1.fpOk hle (I1.hok.fresh hle)
end ZipE
namespace Go
open PySem PySem.Spec PyProof.Rows L2 SetMix
open Evl (Ex)
/-! ### rules of the layer that lack: list + list of what is read; sets; sorted -/
section
variable {X : Cx}
def rCatR : R2 := fun x y H Q => ∃ l b xs zs, x = .ref l ∧ y = .ref b ∧ Rd H l (.lst xs) ∧ Rd H b (.lst zs) ∧ xs.length + zs.length ≤ sizeLine ∧ ∀ p, H p = none → Q (.ref p) (upd H p (.lst (xs ++ zs)))
theorem op_catR : OpR X (binaryOp .Add) rCatR := by
  intro pins s σ H x y v u Q I rx ry h
  obtain ⟨l, b, xs, zs, rfl, rfl, hl, hb, hz, q⟩ := h
  cases rx
  cases ry
  obtain ⟨_, i1, n1, r1, e1⟩ := hl.ok I.hok
  obtain ⟨_, i2, n2, r2, e2⟩ := hb.ok I.hok
  have z1 := r1.length
  have z2 := r2.length
  refine PySem.P.add_list e1 e2 ?_ (by simp only [List.size_toArray]; omega)
  have ea : i1.toArray ++ i2.toArray = (i1 ++ i2).toArray := by simp
  rw [ea]
  exact ⟨.ref _, _, I.lnew (t' := s.toks) (r1.append r2) (by rw [List.length_append]; omega), rfl, q _ I.fresh⟩
def SetMO (wd : PySem.World) (a : Addr) (S : Key → Bool) (m : Nat) : HO := .ext fun h => Tab wd h a S m
theorem setMO_ok {P : Program} {wd : PySem.World} {H : Hp} {h : Heap} {a : Addr} {S : Key → Bool} {m : Nat} (T : Tab wd h a S m) : ObjOk P wd H h a (SetMO wd a S m) := by
  have T2 := T
  obtain ⟨ob, _, _, _, e, _⟩ := T2
  exact ⟨T, ⟨ob, e⟩, fun h1 h2 t k => t.keep k⟩
theorem vals_keys : ∀ {us : List Value} {ks : List Key}, Vals (ks.map kV) us → KeysAre us ks
  | _, [], .nil => .nil
  | _, k :: ks, .cons r t => .cons (by
      cases k with
      | inl i => obtain ⟨t, rfl⟩ := r; exact keyIs_int i t
      | inr x => obtain ⟨t, rfl⟩ := r; exact keyIs_str x t) (vals_keys t)
theorem keys_vals : ∀ {us : List Value} {ks : List Key}, KeysAre us ks → Vals (ks.map kV) us
  | _, _, .nil => .nil
  | _, _, .cons (b := k) r t => .cons (by
      rcases keyIs_shape r with ⟨i, t, rfl, rfl⟩ | ⟨x, t, rfl, rfl⟩
      · exact ⟨t, rfl⟩
      · exact ⟨t, rfl⟩) (keys_vals t)
def rSetOf (K : PySem.W.Frag) (wd : PySem.World) : List V → Hp → VK → Prop := fun xs H Q => ∃ (l : Addr) (ks : List Key), xs = [V.ref l] ∧ SqL K H l (ks.map kV) ∧ ks.length < 4000 ∧ ∀ p c, H p = none → c ≤ ks.length → Q (.ref p) (upd H p (SetMO wd p (fun j => inK ks j) c))
theorem cr_setOf (hc : X.calm = true) : CallR X (.type "set") (rSetOf X.K X.w) := by
  intro pins s σ H xs us Q I r h
  obtain ⟨l, ks, rfl, hl, hz, q⟩ := h
  rw [Vals.ref1 r]
  obtain ⟨its, rv, pl, _⟩ := I.list hl
  refine call_set_keys ks (I.ok.hd hc) pl.isList (by simpa using vals_keys rv) (by unfold scanBound; omega) fun hq tk c T hc2 hk => ?_
  exact ⟨.ref _, _, I.laid (t' := tk) hk (Nat.le_refl _) (setMO_ok T), rfl, q _ c (I.hok.fresh (Nat.le_refl _)) hc2⟩
def rSortedTab (wd : PySem.World) : List V → Hp → VK → Prop := fun vs H Q => ∃ (a : Addr) (S : Key → Bool) (m : Nat), vs = [V.ref a] ∧ H a = some (SetMO wd a S m) ∧ (∀ ks : List Key, (∀ k ∈ ks, S k = true) → OneKind ks) ∧
  ∀ (ks ks0 : List Key) (p : Addr), ks = ks0.mergeSort (PySem.W.dataLe false dK) → ks0.Nodup → (∀ k, k ∈ ks0 ↔ S k = true) → ks0.length = m → H p = none → Q (.ref p) (upd H p (.lst (ks.map kV)))
theorem cr_sortedTab (hc : X.calm = true) (hu : X.A.units + 64 < cLine) : CallR X (.builtin "sorted") (rSortedTab X.w) := by
  intro pins s σ H vs us Q I r h
  obtain ⟨a, S, m, rfl, ha, one, q⟩ := h
  rw [Vals.ref1 r]
  obtain ⟨T, _⟩ := (show ObjOk X.prog X.w H s.heap a (SetMO X.w a S m) from I.hok a _ ha)
  refine sorted_tab T (I.ok.hd hc) (by omega) one fun s' p out c ks ks0 k g o hp hg hi hk nd hm hl => ?_
  have hn : H p = none := I.hok.fresh hp
  have hlen : (ks.map kV).length ≤ sizeLine := by
    have e : ks.length = ks0.length := by rw [hk]; exact (List.mergeSort_perm _ _).length_eq
    obtain ⟨_, es, _, _, _, _, _, _, _, _, hb, _, hn2, _⟩ := T
    rw [List.length_map, e, hl, ← hn2, sizeLine_eq]
    unfold scanBound at hb
    omega
  have J : Inv X pins σ (upd H p (.lst (ks.map kV))) { s with heap := s'.heap, gens := s'.gens, drawn := s'.drawn, toks := s'.toks } :=
    I.call (ch := []) (Un.laid k hp hn) (I.hok.laid k hp ⟨hlen, out, c, keys_vals hi, hg⟩) (by rw [g]; exact I.bare) (fun _ z => nomatch z)
  have e : s' = { s with heap := s'.heap, gens := s'.gens, drawn := s'.drawn, toks := s'.toks } := by
    cases s'
    cases s
    cases o
    rfl
  rw [e]
  exact ⟨.ref p, _, J, rfl, q ks ks0 p hk nd hm hl hn⟩
def rSortedD (K : PySem.W.Frag) : List V → Hp → VK → Prop := fun vs H Q => ∃ (a : Addr) (bs : List (V × PyData)), vs = [V.ref a] ∧ SqL K H a (bs.map (·.1)) ∧ (∀ b ∈ bs, Dp K H b.1 b.2) ∧ PySem.W.AllAlike (bs.map (·.2)) ∧ PySem.W.Sortable (bs.map (·.2)) ∧ (∀ b ∈ bs, b.2.depth ≤ 16) ∧
  ∀ p, H p = none → Q (.ref p) (upd H p (.lst ((bs.mergeSort (PySem.W.dataLe false (·.2))).map (·.1))))
theorem each_pairs {R : Value → V × PyData → Prop} : ∀ {us : List Value} {bs : List (V × PyData)}, Vals (bs.map (·.1)) us → (∀ u b, b ∈ bs → RelV b.1 u → R u b) → PySem.W.EachIs R us bs
  | _, [], .nil, _ => .nil
  | _, b :: bs, .cons r t, f => .cons (f _ b List.mem_cons_self r) (each_pairs t fun u c hc => f u c (List.mem_cons_of_mem _ hc))
theorem vals_pairs : ∀ {us : List Value} {bs : List (V × PyData)}, PySem.W.EachIs (fun u (b : V × PyData) => RelV b.1 u) us bs → Vals (bs.map (·.1)) us
  | _, _, .nil => .nil
  | _, _, .cons r t => .cons r (vals_pairs t)
theorem cr_sortedD (hu : X.A.units + 64 < cLine) : CallR X (.builtin "sorted") (rSortedD X.K) := by
  intro pins s σ H vs us Q I r h
  obtain ⟨a, bs, rfl, hl, hd, al, so, dp, q⟩ := h
  rw [Vals.ref1 r]
  obtain ⟨its, rv, pl, hz⟩ := I.list hl
  rw [List.length_map] at hz
  have e1 : PySem.W.EachIs (fun u (b : V × PyData) => RelV b.1 u) its bs := each_pairs rv fun u b _ r => r
  have e2 : PySem.W.EachIs (fun u (b : V × PyData) => ∃ as, Reads s.heap u b.2 as) its bs := each_pairs rv fun u b hb r => Dp.reads I b.2 b.1 u (hd b hb) r
  refine PySem.W.sorted_data (enc := fun b : V × PyData => b.2) pl.isList e1 e2 al so hz (fun b hb => by have := dp b hb; omega) fun out ho eo => ?_
  obtain ⟨c, hc⟩ := sortedAll_at s.heap its out.toArray
  refine ⟨.ref (s.heap.objs.size + 1), _, I.laid (t' := s.toks) (fun b o e => sortedAll_old e) (Nat.le_succ _) (o := .lst ((bs.mergeSort (PySem.W.dataLe false (·.2))).map (·.1))) ⟨?_, out, c, vals_pairs eo, hc⟩, rfl, q _ (I.hok.fresh (Nat.le_succ _))⟩
  rw [List.length_map, (List.mergeSort_perm _ _).length_eq]
  exact hz
end
end Go
namespace Go
open PySem PySem.Spec PyProof.Rows L2 SetMix ZipE
open Evl (Ex)
section
variable {K : PySem.W.Frag} {I0 H0 I I' H H' : Hp} {bs ls as : List Addr} {ρ ts : List SV} {g : List Cell} {σ : L2.St} {vs : List V} {n : Nat} {X : Cx}
/-! ### inversion -/
theorem all1 {ws : List V} {d : D} (h : IsAll K I ws [d]) : ∃ v, ws = [v] ∧ Is K I v d := by
  cases h with | cons h t => cases t; exact ⟨_, rfl, h⟩
theorem all2 {ws : List V} {d e : D} (h : IsAll K I ws [d, e]) : ∃ v w, ws = [v, w] ∧ Is K I v d ∧ Is K I w e := by
  cases h with | cons h t => obtain ⟨w, rfl, q⟩ := all1 t; exact ⟨_, w, rfl, h, q⟩
theorem is_int {v : V} {i : Int} (h : Is K I v (.int i)) : v = .int i := by cases h; rfl
theorem is_str {v : V} {x : Str} (h : Is K I v (.str x)) : v = .str x := by cases h; rfl
theorem is_bl {v : V} {b : Bool} (h : Is K I v (.bool b)) : v = .bl b := by cases h; rfl
theorem is_list {v : V} {ds : List D} (h : Is K I v (.list ds)) : ∃ a xs, v = .ref a ∧ Rd I a (.lst xs) ∧ IsAll K I xs ds := by
  cases h with | lst a b => exact ⟨_, _, rfl, a, b⟩
theorem is_tup {v : V} {ds : List D} (h : Is K I v (.tuple ds)) : ∃ a xs, v = .ref a ∧ SqT K I a xs ∧ IsAll K I xs ds := by
  cases h with | tup a b => exact ⟨_, _, rfl, a, b⟩
/-- results: nothing new, a new list, a new tuple -/
theorem out0 {Q : VK} {post : D → Prop} (ex : Ex I H) (q : ∀ v I' H' d, Fr [] I H I' H' → Is K I' v d → post d → Q v H') {v : V} {d : D} (i : Is K I v d) (p : post d) : Q v H := q v I H d (Fr.refl ex) i p
theorem outL {Q : VK} {post : D → Prop} (ex : Ex I H) (q : ∀ v I' H' d, Fr [] I H I' H' → Is K I' v d → post d → Q v H') {xs : List V} {ds : List D} (i : IsAll K I xs ds) (p : post (.list ds)) {a : Addr} (ha : H a = none) : Q (.ref a) (upd H a (.lst xs)) :=
  q _ (upd I a (.lst xs)) _ (.list ds) (fr_new ex ha) (.lst (.inl upd_same) (i.mono (fr_new ex ha).ii)) p
theorem outT {Q : VK} {post : D → Prop} (ex : Ex I H) (q : ∀ v I' H' d, Fr [] I H I' H' → Is K I' v d → post d → Q v H') {xs : List V} {ds : List D} (i : IsAll K I xs ds) (p : post (.tuple ds)) {a : Addr} (ha : H a = none) : Q (.ref a) (upd H a (.tup xs)) :=
  q _ (upd I a (.tup xs)) _ (.tuple ds) (fr_new ex ha) (.tup (.inl (.inl upd_same)) (i.mono (fr_new ex ha).ii)) p
/-! ### == != -/
theorem opd_eq {d e : D} {post : D → Prop} (hd : SeqAt.shaped d = true) (he : SeqAt.shaped e = true) (p : post (.bool (PyData.eqv d e))) : OpD K (un2 (rEqD K)) [d, e] post := fun I H ws ex h Q q => by
  obtain ⟨v, w, rfl, i1, i2⟩ := all2 h
  exact ⟨v, w, rfl, d, e, i1.dp (SeqAt.canLay_of_shaped hd) ex, i2.dp (SeqAt.canLay_of_shaped he) ex, hd, he, out0 ex q (.bl _) p⟩
theorem opd_ne {d e : D} {post : D → Prop} (hd : SeqAt.shaped d = true) (he : SeqAt.shaped e = true) (p : post (.bool (!PyData.eqv d e))) : OpD K (un2 (rNeD K)) [d, e] post := fun I H ws ex h Q q => by
  obtain ⟨v, w, rfl, i1, i2⟩ := all2 h
  exact ⟨v, w, rfl, d, e, i1.dp (SeqAt.canLay_of_shaped hd) ex, i2.dp (SeqAt.canLay_of_shaped he) ex, hd, he, out0 ex q (.bl _) p⟩
/-! ### x[i] -/
theorem atI_is {xs : List V} {ds : List D} {i : Int} {d : D} (a : IsAll K I xs ds) (h : atI ds i = some d) : ∃ v, atI xs i = some v ∧ Is K I v d := by
  unfold atI at h ⊢
  rw [a.length]
  cases e : ixN ds.length i with
  | none => rw [e] at h; cases h
  | some j =>
    rw [e] at h
    exact a.get h
theorem opd_ixT {ds : List D} {i : Int} {d : D} {post : D → Prop} (h : atI ds i = some d) (p : post d) : OpD K (un2 (rIx K)) [.tuple ds, .int i] post := fun I H ws ex hw Q q => by
  obtain ⟨v, w, rfl, i1, i2⟩ := all2 hw
  obtain ⟨a, xs, rfl, hs, ha⟩ := is_tup i1
  cases is_int i2
  obtain ⟨u, hu, iu⟩ := atI_is ha h
  exact ⟨_, _, rfl, .inr (.inl ⟨a, xs, i, u, rfl, rfl, Evl.ex_t ex hs, hu, out0 ex q iu p⟩)⟩
theorem opd_ixL {ds : List D} {i : Int} {d : D} {post : D → Prop} (h : atI ds i = some d) (p : post d) : OpD K (un2 (rIx K)) [.list ds, .int i] post := fun I H ws ex hw Q q => by
  obtain ⟨v, w, rfl, i1, i2⟩ := all2 hw
  obtain ⟨a, xs, rfl, hs, ha⟩ := is_list i1
  cases is_int i2
  obtain ⟨u, hu, iu⟩ := atI_is ha h
  exact ⟨_, _, rfl, .inl ⟨a, xs, i, u, rfl, rfl, .inl (Evl.ex_rd ex hs), hu, out0 ex q iu p⟩⟩
theorem opd_ixS {x : Str} {i : Int} {c : Nat} {post : D → Prop} (hl : x.length ≤ 100000) (h : atI x.cps.toList i = some c) (p : post (.str ⟨#[c]⟩)) : OpD K (un2 (rIx K)) [.str x, .int i] post := fun I H ws ex hw Q q => by
  obtain ⟨v, w, rfl, i1, i2⟩ := all2 hw
  cases is_str i1
  cases is_int i2
  exact ⟨_, _, rfl, .inr (.inr ⟨x, i, c, rfl, rfl, Evl.sz_of hl, h, out0 ex q (.str _) p⟩)⟩
/-- an item of a list that is being made -/
theorem gd_ixC {ta tb : TE} {post : D → List Cell → Prop} (h : GoE K n ta ρ ts g fun s g1 => ∃ j : Nat, s = .c j ∧ GoD K n tb ρ (.c j :: ts) g1 fun di g2 => ∃ (i : Int) (ds : List D) (d : D), di = .int i ∧ g2[j]? = some (some ds) ∧ atI ds i = some d ∧ post d g2) : GoD K n (tOp (rIx K) ta tb) ρ ts g post := by
  intro I0 H0 bs σ vs H hn w Q q
  refine h I0 H0 bs σ vs H hn w _ fun v H1 s g1 w1 ⟨j, e, p⟩ => ?_
  subst e
  refine p I0 H0 bs σ _ H1 hn w1 _ fun x H2 s2 g2 ⟨I, ls, w2⟩ ⟨di, e, i, ds, d, e2, hg, ha, pp⟩ => ?_
  subst e e2
  obtain ⟨w3, r2⟩ := w2.pop
  obtain ⟨w4, r1⟩ := w3.pop
  cases r1 with
  | @c a _ hp =>
    cases r2 with
    | d ii =>
      cases is_int ii
      obtain ⟨_, xs, hx, ia⟩ := w4.ce.at hp hg
      obtain ⟨u, hu, iu⟩ := atI_is ia ha
      exact .inl ⟨a, xs, i, u, rfl, rfl, .inl (.inl hx), hu, q u H2 (.d d) g2 ⟨I, ls, w4.push (.d iu)⟩ ⟨d, rfl, pp⟩⟩
/-- the script -/
theorem gd_ixN {ta tb : TE} {post : D → List Cell → Prop} (h : GoE K n ta ρ ts g fun s g1 => ∃ ns : List Int, s = .s ns ∧ GoD K n tb ρ (.s ns :: ts) g1 fun di g2 => ∃ (i : Int) (z : Int), di = .int i ∧ atI ns i = some z ∧ post (.int z) g2) : GoD K n (tOp (rIx K) ta tb) ρ ts g post := by
  intro I0 H0 bs σ vs H hn w Q q
  refine h I0 H0 bs σ vs H hn w _ fun v H1 s g1 w1 ⟨ns, e, p⟩ => ?_
  subst e
  refine p I0 H0 bs σ _ H1 hn w1 _ fun x H2 s2 g2 ⟨I, ls, w2⟩ ⟨di, e, i, z, e2, ha, pp⟩ => ?_
  subst e e2
  obtain ⟨w3, r2⟩ := w2.pop
  obtain ⟨w4, r1⟩ := w3.pop
  cases r1 with
  | @s a _ hp =>
    cases r2 with
    | d ii =>
      cases is_int ii
      refine .inl ⟨a, _, i, .int z, rfl, rfl, Evl.ex_l w4.fr.ih hp, ?_, q (.int z) H2 (.d (.int z)) g2 ⟨I, ls, w4.push (.d (.int z))⟩ ⟨_, rfl, pp⟩⟩
      unfold atI at ha ⊢
      rw [List.length_map]
      cases e : ixN ns.length i with
      | none => rw [e] at ha; cases ha
      | some j =>
        rw [e] at ha
        show (ns.map V.int)[j]? = some (V.int z)
        rw [List.getElem?_map]
        rw [show ns[j]? = some z from ha]
        rfl
theorem gd_lenN {ta : TE} {r : List V → Hp → VK → Prop} {post : D → List Cell → Prop} (hr : ∀ (a : Addr) (ys : List V) (H : Hp) (Q : VK), SqL K H a ys → Q (.int ys.length) H → r [.ref a] H Q) (h : GoE K n ta ρ ts g fun s g1 => ∃ ns : List Int, s = .s ns ∧ post (.int ns.length) g1) : GoD K n (tCB r (tCons ta tNil)) ρ ts g post := by
  intro I0 H0 bs σ vs H hn w Q q
  refine h I0 H0 bs σ vs H hn w _ fun v H1 s g1 ⟨I, ls, w1⟩ ⟨ns, e, p⟩ => ?_
  subst e
  obtain ⟨w2, r1⟩ := w1.pop
  cases r1 with
  | @s a _ hp =>
    refine hr a _ H1 Q (Evl.ex_l w2.fr.ih hp) ?_
    rw [List.length_map]
    exact q _ H1 (.d (.int ns.length)) g1 ⟨I, ls, w2.push (.d (.int _))⟩ ⟨_, rfl, p⟩
/-! ### in -/
def flatD : D → Bool
  | .none => true
  | .bool _ => true
  | .int _ => true
  | .str _ => true
  | _ => false
theorem flat_is {v : V} {d : D} (i : Is K I v d) (f : flatD d = true) : flatV v = true := by cases i <;> first | rfl | cases f
theorem flat_all : ∀ {vs : List V} {ds : List D}, IsAll K I vs ds → ds.all flatD = true → vs.all flatV = true
  | _, _, .nil, _ => rfl
  | _, _, .cons i t, f => by
    rw [List.all_cons, Bool.and_eq_true] at f ⊢
    exact ⟨flat_is i f.1, flat_all t f.2⟩
theorem eqV_is {v w : V} {d e : D} (i : Is K I v d) (j : Is K I w e) (f : flatD d = true) (f' : flatD e = true) : eqV v w = PyData.eqv d e := by
  cases i <;> cases j <;> first | (unfold PyData.eqv; rfl) | (cases f; done) | (cases f'; done)
theorem inV_is {w : V} {e : D} (j : Is K I w e) (f' : flatD e = true) : ∀ {vs : List V} {ds : List D}, IsAll K I vs ds → ds.all flatD = true → inV w vs = ds.any fun y => PyData.eqv y e
  | _, _, .nil, _ => rfl
  | _, _, .cons i t, f => by
    rw [List.all_cons, Bool.and_eq_true] at f
    unfold inV
    rw [List.any_cons, List.any_cons, eqV_is i j f.1 f']
    have := inV_is j f' t f.2
    unfold inV at this
    rw [this]
theorem opd_inT {neg : Bool} {d : D} {ds : List D} {post : D → Prop} (fd : flatD d = true) (fs : ds.all flatD = true) (p : post (.bool (if neg then !(ds.any fun y => PyData.eqv y d) else ds.any fun y => PyData.eqv y d))) : OpD K (un2 (rIn K neg)) [d, .tuple ds] post := fun I H ws ex hw Q q => by
  obtain ⟨v, w, rfl, i1, i2⟩ := all2 hw
  obtain ⟨a, xs, rfl, hs, ha⟩ := is_tup i2
  refine ⟨_, _, rfl, a, xs, rfl, .inr (Evl.ex_t ex hs), flat_is i1 fd, flat_all ha fs, ?_⟩
  rw [inV_is i1 fd ha fs]
  exact out0 ex q (.bl _) p
theorem opd_inL {neg : Bool} {d : D} {ds : List D} {post : D → Prop} (fd : flatD d = true) (fs : ds.all flatD = true) (p : post (.bool (if neg then !(ds.any fun y => PyData.eqv y d) else ds.any fun y => PyData.eqv y d))) : OpD K (un2 (rIn K neg)) [d, .list ds] post := fun I H ws ex hw Q q => by
  obtain ⟨v, w, rfl, i1, i2⟩ := all2 hw
  obtain ⟨a, xs, rfl, hs, ha⟩ := is_list i2
  refine ⟨_, _, rfl, a, xs, rfl, .inl (.inl (Evl.ex_rd ex hs)), flat_is i1 fd, flat_all ha fs, ?_⟩
  rw [inV_is i1 fd ha fs]
  exact out0 ex q (.bl _) p
/-! ### +, * of lists and tuples -/
theorem opd_cat {ds es : List D} {post : D → Prop} (hz : ds.length + es.length ≤ 100000) (p : post (.list (ds ++ es))) : OpD K (un2 rCatR) [.list ds, .list es] post := fun I H ws ex hw Q q => by
  obtain ⟨v, w, rfl, i1, i2⟩ := all2 hw
  obtain ⟨a, xs, rfl, hs, ha⟩ := is_list i1
  obtain ⟨b, ys, rfl, hs2, hb⟩ := is_list i2
  exact ⟨_, _, rfl, a, b, xs, ys, rfl, rfl, Evl.ex_rd ex hs, Evl.ex_rd ex hs2, by rw [ha.length, hb.length]; exact Evl.sz_of hz, fun p' hp => outL ex q (ha.append hb) p hp⟩
theorem opd_catT {ds es : List D} {post : D → Prop} (hz : ds.length + es.length ≤ 100000) (p : post (.tuple (ds ++ es))) : OpD K (un2 (rCatA K)) [.tuple ds, .tuple es] post := fun I H ws ex hw Q q => by
  obtain ⟨v, w, rfl, i1, i2⟩ := all2 hw
  obtain ⟨a, xs, rfl, hs, ha⟩ := is_tup i1
  obtain ⟨b, ys, rfl, hs2, hb⟩ := is_tup i2
  refine ⟨_, _, rfl, a, b, xs, ys, rfl, rfl, Evl.ex_t ex hs, Evl.ex_t ex hs2, by rw [ha.length, hb.length]; exact Evl.sz_of hz, fun e => ?_, fun _ e => ?_, fun _ _ p' hp => outT ex q (ha.append hb) p hp⟩
  · subst e
    cases ha
    exact out0 ex q i2 p
  · subst e
    cases hb
    rw [List.append_nil] at p
    exact out0 ex q i1 p
theorem isAll_rep {xs : List V} {ds : List D} (a : IsAll K I xs ds) : ∀ m : Nat, IsAll K I (List.replicate m xs).flatten (List.replicate m ds).flatten
  | 0 => .nil
  | m + 1 => by
    rw [List.replicate_succ, List.replicate_succ, List.flatten_cons, List.flatten_cons]
    exact a.append (isAll_rep a m)
/-! ### calls -/
def rLenA (K : PySem.W.Frag) : List V → Hp → VK → Prop := fun xs H Q => (∃ p ys, xs = [.ref p] ∧ (SqL K H p ys ∨ SqT K H p ys) ∧ Q (.int ys.length) H) ∨ (∃ z : Str, xs = [.str z] ∧ z.length ≤ sizeLine ∧ Q (.int z.length) H)
theorem call_lenA : CallR X (.builtin "len") (rLenA X.K) := CallR.or call_len_seq call_len_str
theorem rLenA_seq (a : Addr) (ys : List V) (H : Hp) (Q : VK) (h : SqL K H a ys) (q : Q (.int ys.length) H) : rLenA K [.ref a] H Q := .inl ⟨a, ys, rfl, .inl h, q⟩
theorem opd_lenL {ds : List D} {post : D → Prop} (p : post (.int ds.length)) : OpD K (rLenA K) [.list ds] post := fun I H ws ex hw Q q => by
  obtain ⟨v, rfl, i⟩ := all1 hw
  obtain ⟨a, xs, rfl, hs, ha⟩ := is_list i
  exact .inl ⟨a, xs, rfl, .inl (.inl (Evl.ex_rd ex hs)), by rw [ha.length]; exact out0 ex q (.int _) p⟩
theorem opd_lenT {ds : List D} {post : D → Prop} (p : post (.int ds.length)) : OpD K (rLenA K) [.tuple ds] post := fun I H ws ex hw Q q => by
  obtain ⟨v, rfl, i⟩ := all1 hw
  obtain ⟨a, xs, rfl, hs, ha⟩ := is_tup i
  exact .inl ⟨a, xs, rfl, .inr (Evl.ex_t ex hs), by rw [ha.length]; exact out0 ex q (.int _) p⟩
theorem opd_lenS {x : Str} {post : D → Prop} (hl : x.length ≤ 100000) (p : post (.int x.length)) : OpD K (rLenA K) [.str x] post := fun I H ws ex hw Q q => by
  obtain ⟨v, rfl, i⟩ := all1 hw
  cases is_str i
  exact .inr ⟨x, rfl, Evl.sz_of hl, out0 ex q (.int _) p⟩
def rTupleA (K : PySem.W.Frag) : List V → Hp → VK → Prop := fun xs H Q => ∃ p ys, xs = [.ref p] ∧ ((SqL K H p ys ∧ ∀ l, H l = none → Q (.ref l) (upd H l (.tup ys))) ∨ (SqT K H p ys ∧ Q (.ref p) H))
theorem call_tupleA : CallR X (.type "tuple") (rTupleA X.K) := call_tuple_of
theorem opd_tupleL {ds : List D} {post : D → Prop} (p : post (.tuple ds)) : OpD K (rTupleA K) [.list ds] post := fun I H ws ex hw Q q => by
  obtain ⟨v, rfl, i⟩ := all1 hw
  obtain ⟨a, xs, rfl, hs, ha⟩ := is_list i
  exact ⟨a, xs, rfl, .inl ⟨.inl (Evl.ex_rd ex hs), fun l hl => outT ex q ha p hl⟩⟩
theorem opd_tupleT {ds : List D} {post : D → Prop} (p : post (.tuple ds)) : OpD K (rTupleA K) [.tuple ds] post := fun I H ws ex hw Q q => by
  obtain ⟨v, rfl, i⟩ := all1 hw
  obtain ⟨a, xs, rfl, hs, ha⟩ := is_tup i
  exact ⟨a, xs, rfl, .inr ⟨Evl.ex_t ex hs, out0 ex q (.tup hs ha) p⟩⟩
def rMax2A : List V → Hp → VK → Prop := fun xs H Q => ∃ i j, xs = [.int i, .int j] ∧ Q (.int (if j > i then j else i)) H
def rMin2A : List V → Hp → VK → Prop := fun xs H Q => ∃ i j, xs = [.int i, .int j] ∧ Q (.int (if j < i then j else i)) H
theorem call_max2A (hc : X.calm = true) : CallR X (.builtin "max") rMax2A := call_max2 hc
theorem call_min2A (hc : X.calm = true) : CallR X (.builtin "min") rMin2A := call_min2 hc
theorem opd_max2 {i j : Int} {post : D → Prop} (p : post (.int (if j > i then j else i))) : OpD K rMax2A [.int i, .int j] post := fun I H ws ex hw Q q => by
  obtain ⟨v, w, rfl, i1, i2⟩ := all2 hw
  cases is_int i1
  cases is_int i2
  exact ⟨i, j, rfl, out0 ex q (.int _) p⟩
theorem opd_min2 {i j : Int} {post : D → Prop} (p : post (.int (if j < i then j else i))) : OpD K rMin2A [.int i, .int j] post := fun I H ws ex hw Q q => by
  obtain ⟨v, w, rfl, i1, i2⟩ := all2 hw
  cases is_int i1
  cases is_int i2
  exact ⟨i, j, rfl, out0 ex q (.int _) p⟩
theorem ints_is : ∀ {xs : List V} {ns : List Int}, IsAll K I xs (ns.map PyData.int) → xs = ns.map V.int
  | _, [], .nil => rfl
  | _, _ :: _, .cons i t => by rw [is_int i, ints_is t]; rfl
theorem bls_is : ∀ {xs : List V} {ns : List Bool}, IsAll K I xs (ns.map PyData.bool) → xs = ns.map V.bl
  | _, [], .nil => rfl
  | _, _ :: _, .cons i t => by rw [is_bl i, bls_is t]; rfl
theorem strs_is : ∀ {xs : List V} {ns : List Str}, IsAll K I xs (ns.map PyData.str) → xs = ns.map V.str
  | _, [], .nil => rfl
  | _, _ :: _, .cons i t => by rw [is_str i, strs_is t]; rfl
theorem opd_maxL {ns : List Int} {post : D → Prop} (h0 : 0 < ns.length) (p : ∀ m ∈ ns, (∀ y ∈ ns, y ≤ m) → post (.int m)) : OpD K (rMax K) [.list (ns.map PyData.int)] post := fun I H ws ex hw Q q => by
  obtain ⟨v, rfl, i⟩ := all1 hw
  obtain ⟨a, xs, rfl, hs, ha⟩ := is_list i
  rw [ints_is ha] at hs
  exact ⟨a, ns, rfl, .inl (Evl.ex_rd ex hs), h0, fun m hm hy => out0 ex q (.int _) (p m hm hy)⟩
theorem opd_minL {ns : List Int} {post : D → Prop} (h0 : 0 < ns.length) (p : ∀ m ∈ ns, (∀ y ∈ ns, m ≤ y) → post (.int m)) : OpD K (rMin K) [.list (ns.map PyData.int)] post := fun I H ws ex hw Q q => by
  obtain ⟨v, rfl, i⟩ := all1 hw
  obtain ⟨a, xs, rfl, hs, ha⟩ := is_list i
  rw [ints_is ha] at hs
  exact ⟨a, ns, rfl, .inl (Evl.ex_rd ex hs), h0, fun m hm hy => out0 ex q (.int _) (p m hm hy)⟩
theorem opd_any {ns : List Bool} {post : D → Prop} (p : post (.bool (ns.any id))) : OpD K (rAny K) [.list (ns.map PyData.bool)] post := fun I H ws ex hw Q q => by
  obtain ⟨v, rfl, i⟩ := all1 hw
  obtain ⟨a, xs, rfl, hs, ha⟩ := is_list i
  rw [bls_is ha] at hs
  exact ⟨a, ns, rfl, .inl (Evl.ex_rd ex hs), out0 ex q (.bl _) p⟩
theorem opd_all {ns : List Bool} {post : D → Prop} (p : post (.bool (ns.all id))) : OpD K (rAll K) [.list (ns.map PyData.bool)] post := fun I H ws ex hw Q q => by
  obtain ⟨v, rfl, i⟩ := all1 hw
  obtain ⟨a, xs, rfl, hs, ha⟩ := is_list i
  rw [bls_is ha] at hs
  exact ⟨a, ns, rfl, .inl (Evl.ex_rd ex hs), out0 ex q (.bl _) p⟩
def rAbsA : List V → Hp → VK → Prop := fun xs H Q => ∃ i, xs = [.int i] ∧ Q (.int (if i < 0 then -i else i)) H
theorem call_absA : CallR X (.builtin "abs") rAbsA := call_abs
theorem opd_abs {i : Int} {post : D → Prop} (p : post (.int (if i < 0 then -i else i))) : OpD K rAbsA [.int i] post := fun I H ws ex hw Q q => by
  obtain ⟨v, rfl, ii⟩ := all1 hw
  cases is_int ii
  exact ⟨i, rfl, out0 ex q (.int _) p⟩
def rIntA : List V → Hp → VK → Prop := fun xs H Q => (∃ i, xs = [.int i] ∧ Q (.int i) H) ∨ ∃ k, xs = [.bl k] ∧ Q (.int (if k then 1 else 0)) H
theorem call_intA : CallR X (.type "int") rIntA := call_int1
theorem opd_intB {k : Bool} {post : D → Prop} (p : post (.int (if k then 1 else 0))) : OpD K rIntA [.bool k] post := fun I H ws ex hw Q q => by
  obtain ⟨v, rfl, ii⟩ := all1 hw
  cases is_bl ii
  exact .inr ⟨k, rfl, out0 ex q (.int _) p⟩
/-! ### isinstance(x, T) -/
def tyN : D → String
  | .none => "NoneType"
  | .bool _ => "bool"
  | .int _ => "int"
  | .str _ => "str"
  | .list _ => "list"
  | .tuple _ => "tuple"
  | .dict _ => "dict"
def isaN (T N : String) : Bool := T == N || (T == "int" && N == "bool")
def isaD (T : String) (d : D) : Bool := isaN T (tyN d)
theorem is_ty {v : V} {d : D} (no : ∀ k, d ≠ .dict [(.none, k)]) (ex : Ex I H) (i : Is K I v d) : TyX K H v (.type (tyN d)) := by
  cases i with
  | non => exact .base .non
  | bl b => exact .base (.bl b)
  | int j => exact .base (.int j)
  | str x => exact .base (.str x)
  | lst h _ =>
    rcases Evl.ex_rd ex h with h | ⟨o, h⟩
    · exact .base (.lst h)
    · exact .base (.frz h)
  | tup h _ =>
    rcases Evl.ex_t ex h with (h | ⟨o, h⟩) | ⟨o, _, _, h, c, _⟩
    · exact .base (.tup h)
    · exact .fTuple h
    · exact .kTuple h c
  | dic h _ => exact .base (.dK (ex _ _ h))
  | op _ => exact absurd rfl (no _)
theorem kitB_ok {T : String} (hT : T = "int" ∨ T = "bool" ∨ T = "str" ∨ T = "list" ∨ T = "tuple" ∨ T = "dict") (d : D) : kitB (tyN d) T = some (isaD T d) := by
  unfold isaD
  have h : tyN d = "NoneType" ∨ tyN d = "bool" ∨ tyN d = "int" ∨ tyN d = "str" ∨ tyN d = "list" ∨ tyN d = "tuple" ∨ tyN d = "dict" := by cases d <;> simp [tyN]
  generalize tyN d = N at h ⊢
  rcases hT with rfl | rfl | rfl | rfl | rfl | rfl <;> rcases h with rfl | rfl | rfl | rfl | rfl | rfl | rfl <;> decide +kernel
theorem gd_isi {ta : TE} {T : String} {post : D → List Cell → Prop} (hT : T = "int" ∨ T = "bool" ∨ T = "str" ∨ T = "list" ∨ T = "tuple" ∨ T = "dict") (h : GoD K n ta ρ ts g fun d g1 => (∀ k, d ≠ .dict [(.none, k)]) ∧ post (.bool (isaD T d)) g1) : GoD K n (tCB (rIsi K) (tCons ta (tCons (tC (.ty T)) tNil))) ρ ts g post := by
  intro I0 H0 bs σ vs H hn w Q q
  refine h I0 H0 bs σ vs H hn w _ fun v H1 s g1 ⟨I, ls, w1⟩ ⟨d, e, no, p⟩ => ?_
  subst e
  obtain ⟨w2, r⟩ := w1.pop
  cases r with
  | d i => exact ⟨v, .ty T, _, _, _, rfl, .ty T, is_ty no w2.fr.ih i, kit_ty (kitB_ok hT d), q _ H1 _ g1 ⟨I, ls, w2.push (.d (.bl _))⟩ ⟨_, rfl, p⟩⟩
end
end Go
namespace Go
open PySem PySem.Spec PyProof.Rows L2 SetMix ZipE
open Evl (Ex)
theorem OpR.or {X : Cx} {f : Value → Value → Sem Value} {r r' : R2} (h : OpR X f r) (h' : OpR X f r') : OpR X f (fun x y H Q => r x y H Q ∨ r' x y H Q) := by
  intro pins s σ H x y v u Q I rx ry q
  rcases q with q | q
  · exact h pins s σ H x y v u Q I rx ry q
  · exact h' pins s σ H x y v u Q I rx ry q
section
variable {K : PySem.W.Frag} {I0 H0 I I' H H' : Hp} {bs ls as : List Addr} {ρ ts : List SV} {g : List Cell} {σ : L2.St} {vs : List V} {n : Nat} {X : Cx}
theorem OpD.or1 {r r' : R2} {ds : List D} {post : D → Prop} (h : OpD K (un2 r) ds post) : OpD K (un2 fun x y H Q => r x y H Q ∨ r' x y H Q) ds post := fun I H ws ex hw Q q => by
  obtain ⟨x, y, e, k⟩ := h I H ws ex hw Q q
  exact ⟨x, y, e, .inl k⟩
theorem OpD.or2 {r r' : R2} {ds : List D} {post : D → Prop} (h : OpD K (un2 r') ds post) : OpD K (un2 fun x y H Q => r x y H Q ∨ r' x y H Q) ds post := fun I H ws ex hw Q q => by
  obtain ⟨x, y, e, k⟩ := h I H ws ex hw Q q
  exact ⟨x, y, e, .inr k⟩
/-- + of whole numbers, lists, tuples -/
def rAddA (K : PySem.W.Frag) : R2 := fun x y H Q => rI0 (fun i j => V.int (i + j)) x y H Q ∨ (fun x y H Q => rCatR x y H Q ∨ rCatA K x y H Q) x y H Q
theorem op_addA : OpR X (binaryOp .Add) (rAddA X.K) := OpR.or op_add (OpR.or op_catR op_catA)
theorem opd_addI {i j : Int} {post : D → Prop} (p : post (.int (i + j))) : OpD K (un2 (rAddA K)) [.int i, .int j] post := OpD.or1 (opd_I0 (fun _ => .int _) p)
theorem opd_addL {ds es : List D} {post : D → Prop} (hz : ds.length + es.length ≤ 100000) (p : post (.list (ds ++ es))) : OpD K (un2 (rAddA K)) [.list ds, .list es] post := OpD.or2 (OpD.or1 (opd_cat hz p))
theorem opd_addT {ds es : List D} {post : D → Prop} (hz : ds.length + es.length ≤ 100000) (p : post (.tuple (ds ++ es))) : OpD K (un2 (rAddA K)) [.tuple ds, .tuple es] post := OpD.or2 (OpD.or2 (opd_catT hz p))
theorem opd_sub {i j : Int} {post : D → Prop} (p : post (.int (i - j))) : OpD K (un2 (rI0 fun i j => V.int (i - j))) [.int i, .int j] post := opd_I0 (fun _ => .int _) p
theorem opd_mul {i j : Int} {post : D → Prop} (hc : CMulW i j) (p : post (.int (i * j))) : OpD K (un2 (rI CMulW fun i j => V.int (i * j))) [.int i, .int j] post := opd_I (fun _ => .int _) hc p
theorem opd_mod {i j : Int} {post : D → Prop} (hc : 0 < j) (p : post (.int (i % j))) : OpD K (un2 (rI (fun _ j => 0 < j) fun i j => V.int (i % j))) [.int i, .int j] post := opd_I (C := fun _ j => 0 < j) (fun _ => .int _) hc p
theorem opd_fdiv {i j : Int} {post : D → Prop} (hc : CDivW i j) (p : post (.int (i / j))) : OpD K (un2 (rI CDivW fun i j => V.int (i / j))) [.int i, .int j] post := opd_I (fun _ => .int _) hc p
theorem opd_pow {i j : Int} {post : D → Prop} (hc : CPow i j) (p : post (.int (i ^ j.toNat))) : OpD K (un2 (rI CPow fun i j => V.int (i ^ j.toNat))) [.int i, .int j] post := opd_I (fun _ => .int _) hc p
theorem opd_lt {i j : Int} {post : D → Prop} (p : post (.bool (decide (i < j)))) : OpD K (un2 (rI0 fun i j => V.bl (decide (i < j)))) [.int i, .int j] post := opd_I0 (fun _ => .bl _) p
theorem opd_le {i j : Int} {post : D → Prop} (p : post (.bool (decide (i ≤ j)))) : OpD K (un2 (rI0 fun i j => V.bl (decide (i ≤ j)))) [.int i, .int j] post := opd_I0 (fun _ => .bl _) p
theorem opd_gt {i j : Int} {post : D → Prop} (p : post (.bool (decide (j < i)))) : OpD K (un2 (rI0 fun i j => V.bl (decide (j < i)))) [.int i, .int j] post := opd_I0 (fun _ => .bl _) p
theorem opd_ge {i j : Int} {post : D → Prop} (p : post (.bool (decide (j ≤ i)))) : OpD K (un2 (rI0 fun i j => V.bl (decide (j ≤ i)))) [.int i, .int j] post := opd_I0 (fun _ => .bl _) p
/-! ### slices of lists -/
def GoO (K : PySem.W.Frag) (n : Nat) (to : TO) (ρ ts : List SV) (g : List Cell) (post : Option Int → List Cell → Prop) : Prop :=
  ∀ I0 H0 bs σ vs H, bs.length = n → World K I0 H0 bs ρ ts g σ vs H → ∀ Q : Option Int → Hp → Prop, (∀ o H' g', World K I0 H0 bs ρ ts g' σ vs H' → post o g' → Q o H') → to σ H Q
theorem go_none {post : Option Int → List Cell → Prop} (p : post none g) : GoO K n tNoPart ρ ts g post := fun I0 H0 bs σ vs H hn w Q q => q none H g w p
theorem go_some {te : TE} {post : Option Int → List Cell → Prop} (h : GoD K n te ρ ts g fun d g1 => ∃ i, d = .int i ∧ post (some i) g1) : GoO K n (tPart te) ρ ts g post := by
  intro I0 H0 bs σ vs H hn w Q q
  refine h I0 H0 bs σ vs H hn w _ fun v H1 s g1 ⟨I, ls, w1⟩ ⟨d, e, i, e2, p⟩ => ?_
  subst e e2
  obtain ⟨w2, r⟩ := w1.pop
  cases r with
  | d ii => cases is_int ii; exact ⟨i, rfl, q _ H1 g1 ⟨I, ls, w2⟩ p⟩
def cutD (xs : List D) (lo hi : Option Int) : List D := (xs.drop (HT.sIx xs.length 0 lo)).take (HT.sIx xs.length xs.length hi - HT.sIx xs.length 0 lo)
theorem isAll_cut {xs : List V} {ds : List D} (a : IsAll K I xs ds) (lo hi : Option Int) : IsAll K I (cutV xs lo hi) (cutD ds lo hi) := by
  unfold cutV cutD
  rw [a.length]
  exact (a.drop _).take _
theorem gd_sl {te : TE} {tl th : TO} {post : D → List Cell → Prop} (h : GoD K n te ρ ts g fun d g1 => ∃ ds, d = .list ds ∧ GoO K n tl ρ (.d d :: ts) g1 fun lo g2 => GoO K n th ρ (.d d :: ts) g2 fun hi g3 => post (.list (cutD ds lo hi)) g3) : GoD K n (tSl (rSlL K) te tl th) ρ ts g post := by
  intro I0 H0 bs σ vs H hn w Q q
  refine h I0 H0 bs σ vs H hn w _ fun v H1 s g1 w1 ⟨d, e, ds, e2, p1⟩ => ?_
  subst e e2
  refine p1 I0 H0 bs σ _ H1 hn w1 _ fun lo H2 g2 w2 p2 => p2 I0 H0 bs σ _ H2 hn w2 _ fun hi H3 g3 ⟨I, ls, w3⟩ p3 => ?_
  obtain ⟨w4, r⟩ := w3.pop
  cases r with
  | d i =>
    obtain ⟨a, xs, rfl, hs, ha⟩ := is_list i
    refine ⟨a, xs, rfl, .inl (Evl.ex_rd w4.fr.ih hs), fun p hp => ?_⟩
    exact outL (post := fun d => post d g3) (Q := Q) w4.fr.ih (fun v I' H' d f i p => q v H' (.d d) g3 ⟨I', ls, (w4.step f).push (.d i)⟩ ⟨d, rfl, p⟩) (isAll_cut ha lo hi) p3 hp
/-! ### sorted -/
def rSortedA (K : PySem.W.Frag) (wd : PySem.World) : List V → Hp → VK → Prop := fun xs H Q => rSortedD K xs H Q ∨ rSortedTab wd xs H Q
theorem call_sortedA (hc : X.calm = true) (hu : X.A.units + 64 < cLine) : CallR X (.builtin "sorted") (rSortedA X.K X.w) := CallR.or (cr_sortedD hu) (cr_sortedTab hc hu)
theorem isAll_zip : ∀ {xs : List V} {ds : List D}, IsAll K I xs ds → (xs.zip ds).map (·.1) = xs ∧ (xs.zip ds).map (·.2) = ds ∧ ∀ b ∈ xs.zip ds, Is K I b.1 b.2
  | _, _, .nil => ⟨rfl, rfl, fun _ z => nomatch z⟩
  | _, _, .cons i t => by
    obtain ⟨a, b, c⟩ := isAll_zip t
    refine ⟨by rw [List.zip_cons_cons, List.map_cons, a], by rw [List.zip_cons_cons, List.map_cons, b], fun q hq => ?_⟩
    rw [List.zip_cons_cons] at hq
    rcases List.mem_cons.mp hq with e | e
    · rw [e]; exact i
    · exact c q e
theorem isAll_of_pairs : ∀ {bs : List (V × D)}, (∀ b ∈ bs, Is K I b.1 b.2) → IsAll K I (bs.map (·.1)) (bs.map (·.2))
  | [], _ => .nil
  | b :: bs, h => .cons (h b List.mem_cons_self) (isAll_of_pairs fun c hc => h c (List.mem_cons_of_mem _ hc))
def sortD (ds : List D) : List D := ds.mergeSort (PySem.W.dataLe false id)
theorem opd_sorted {wd : PySem.World} {ds : List D} {post : D → Prop} (al : PySem.W.AllAlike ds) (so : PySem.W.Sortable ds) (ok : ∀ d ∈ ds, d.canLay0 = true ∧ d.depth ≤ 16) (p : post (.list (sortD ds))) : OpD K (rSortedA K wd) [.list ds] post := fun I H ws ex hw Q q => by
  obtain ⟨v, rfl, i⟩ := all1 hw
  obtain ⟨a, xs, rfl, hs, ha⟩ := is_list i
  obtain ⟨z1, z2, z3⟩ := isAll_zip ha
  have m2 : ∀ b ∈ xs.zip ds, b.2 ∈ ds := fun b hb => by
    rw [← z2]; exact List.mem_map.mpr ⟨b, hb, rfl⟩
  refine .inl ⟨a, xs.zip ds, rfl, by rw [z1]; exact .inl (Evl.ex_rd ex hs), fun b hb => (z3 b hb).dp (ok _ (m2 b hb)).1 ex, by rw [z2]; exact al, by rw [z2]; exact so, fun b hb => (ok _ (m2 b hb)).2, fun p' hp => ?_⟩
  have e : sortD ds = ((xs.zip ds).mergeSort (PySem.W.dataLe false (·.2))).map (·.2) := by
    have h := PySem.W.sort_maps (r := PySem.W.dataLe false fun x : V × D => x.2) (s := PySem.W.dataLe false id) (l := xs.zip ds) (fun x : V × D => x.2) (fun a _ b _ => rfl)
    rw [z2] at h
    exact h.symm
  rw [e] at p
  exact outL ex q (isAll_of_pairs fun b hb => z3 b ((List.mergeSort_perm _ _).mem_iff.mp hb)) p hp
theorem keys_is : ∀ (ks : List Key), IsAll K I (ks.map kV) (ks.map kD)
  | [] => .nil
  | k :: ks => .cons (by cases k with | inl i => exact .int i | inr x => exact .str x) (keys_is ks)
theorem is_keys : ∀ {xs : List V} {ks : List Key}, IsAll K I xs (ks.map kD) → xs = ks.map kV
  | _, [], .nil => rfl
  | _, k :: ks, .cons i t => by
    rw [is_keys t]
    cases k with
    | inl j => cases is_int (show Is K I _ (.int j) from i); rfl
    | inr x => cases is_str (show Is K I _ (.str x) from i); rfl
/-- sorted(set(e)), e a list of whole numbers or of texts -/
theorem gd_sortset {wd : PySem.World} {te : TE} {post : D → List Cell → Prop} (h : GoD K n te ρ ts g fun d g1 => ∃ ks : List Key, d = .list (ks.map kD) ∧ ks.length < 4000 ∧ OneKind ks ∧
      ∀ ks' ks0 : List Key, ks' = ks0.mergeSort (PySem.W.dataLe false kD) → ks0.Nodup → (∀ k, k ∈ ks0 ↔ k ∈ ks) → post (.list (ks'.map kD)) g1) :
    GoD K n (tCB (rSortedA K wd) (tCons (tCB (rSetOf K wd) (tCons te tNil)) tNil)) ρ ts g post := by
  intro I0 H0 bs σ vs H hn w Q q
  refine h I0 H0 bs σ vs H hn w _ fun v H1 s g1 ⟨I, ls, w1⟩ ⟨d, e, ks, e2, hz, one, p⟩ => ?_
  subst e e2
  obtain ⟨w2, r⟩ := w1.pop
  cases r with
  | d i =>
    obtain ⟨a, xs, rfl, hs, ha⟩ := is_list i
    rw [is_keys ha] at hs
    refine ⟨a, ks, rfl, .inl (Evl.ex_rd w2.fr.ih hs), hz, fun s c hs0 hc => .inr ⟨s, _, c, rfl, upd_same, fun l hl => ?_, fun ks' ks0 t hk nd hm _ ht => ?_⟩⟩
    · rcases one with o | o
      · exact .inl fun k hk => o k (inK_iff.mp (hl k hk))
      · exact .inr fun k hk => o k (inK_iff.mp (hl k hk))
    · have f1 : Fr [] I H1 I (upd H1 s (SetMO wd s (fun j => inK ks j) c)) := by
        have hx : ∀ b o, H1 b = some o → upd H1 s (SetMO wd s (fun j => inK ks j) c) b = some o := fun b o e => by rw [upd_ne (ne_of_none e hs0)]; exact e
        refine ⟨Ex.refl I, fun b o e => hx b o (w2.fr.ih b o e), fun b o _ e => hx b o e, fun b e => ?_, fun _ _ e => e⟩
        cases z : H1 b with
        | none => exact absurd z e
        | some o => rw [hx b o z]; exact fun y => nomatch y
      have w3 := w2.step f1
      have pp := p ks' ks0 hk nd fun k => (hm k).trans inK_iff
      exact outL (post := fun d => post d g1) (Q := Q) w3.fr.ih (fun v I' H' d f i p => q v H' (.d d) g1 ⟨I', ls, (w3.step f).push (.d i)⟩ ⟨d, rfl, p⟩) (keys_is ks') pp ht
/-! ### zip, enumerate -/
theorem zip_at {α β : Type} {l : List α} {m : List β} {i : Nat} {a : α} {b : β} (h : l[i]? = some a) (k : m[i]? = some b) : (l.zip m)[i]? = some (a, b) := (List.getElem?_zip_eq_some (z := (a, b))).mpr ⟨h, k⟩
def zipD2 (as bs : List D) : List D := (as.zip bs).map fun p => .tuple [p.1, p.2]
def zipD3 (as bs cs : List D) : List D := (as.zip (bs.zip cs)).map fun p => .tuple [p.1, p.2.1, p.2.2]
def enumD (as : List D) : List D := (List.range as.length).zip as |>.map fun p => .tuple [.int (p.1 : Nat), p.2]
theorem is_seq {v : V} {d : D} {ds : List D} (h : d = .list ds ∨ d = .tuple ds) (i : Is K I v d) : ∃ k a xs, v = .ref a ∧ SqK K I k a xs ∧ IsAll K I xs ds := by
  rcases h with rfl | rfl
  · obtain ⟨a, xs, e, h, t⟩ := is_list i
    exact ⟨false, a, xs, e, .inl h, t⟩
  · obtain ⟨a, xs, e, h, t⟩ := is_tup i
    exact ⟨true, a, xs, e, h, t⟩
theorem sqK_ex {k : Bool} {a : Addr} {xs : List V} (e : Ex I H) (h : SqK K I k a xs) : SqK K H k a xs := by
  cases k
  · exact Evl.ex_l e h
  · exact Evl.ex_t e h
theorem gi_enum {ta : TA} {post : List D → List Cell → Prop} (h : GoDs K n ta ρ ts g fun ds g1 => ∃ d es, ds = [d] ∧ (d = .list es ∨ d = .tuple es) ∧ post (enumD es) g1) : GoI K n (iEnum1 K ta) ρ ts g post := by
  intro I0 H0 bs σ vs H hn w R q
  refine h I0 H0 bs σ vs H hn w _ fun ws H1 ss g1 hl ⟨I, ls, w1⟩ ⟨ds, e, d, es, e2, hd, p⟩ => ?_
  subst e e2
  obtain ⟨w2, r⟩ := w1.pops hl
  obtain ⟨v, rfl, i⟩ := all1 (rels_d r)
  obtain ⟨k, a, xs, rfl, hs, ha⟩ := is_seq hd i
  have le : (enumD es).length = es.length := by unfold enumD; simp
  refine ⟨k, a, xs, rfl, sqK_ex w2.fr.ih hs, q _ H1 g1 _ I ls w2 ⟨fun i I2 H2 e1 e2 hi => ⟨xs, sqK_ex e2 (sqK_ex e1 hs), by rw [ha.length]; rw [le] at hi; exact hi⟩, fun I2 H2 e1 e2 => ⟨xs, sqK_ex e2 (sqK_ex e1 hs), by rw [le, ha.length]⟩, fun i d I2 H2 x H' e1 e2 hi hy => ?_⟩ p⟩
  obtain ⟨T, y, rfl, hT, rfl, f1⟩ := hy
  have hx := f1 xs (sqK_ex e2 (sqK_ex e1 hs))
  obtain ⟨dy, ey, iy⟩ := (ha.mono e1).getV hx
  have lt : i < es.length := (List.getElem?_eq_some_iff.mp ey).1
  have ed : d = .tuple [.int (i : Nat), dy] := by
    unfold enumD at hi
    rw [List.getElem?_map, zip_at (List.getElem?_range lt) ey] at hi
    exact (Option.some.inj hi).symm
  subst ed
  exact ⟨upd I2 T (.tup [.int (i : Nat), y]), fr_new e2 hT, .tup (.inl (.inl upd_same)) (IsAll.mono (fr_new (o := .tup [.int (i : Nat), y]) e2 hT).ii (.cons (.int _) (.cons iy .nil)))⟩
theorem gi_zip2 {ta : TA} {post : List D → List Cell → Prop} (h : GoDs K n ta ρ ts g fun ds g1 => ∃ d d2 es es2, ds = [d, d2] ∧ (d = .list es ∨ d = .tuple es) ∧ (d2 = .list es2 ∨ d2 = .tuple es2) ∧ post (zipD2 es es2) g1) : GoI K n (iZip2 K ta) ρ ts g post := by
  intro I0 H0 bs σ vs H hn w R q
  refine h I0 H0 bs σ vs H hn w _ fun ws H1 ss g1 hl ⟨I, ls, w1⟩ ⟨ds, e, d, d2, es, es2, e2, hd, hd2, p⟩ => ?_
  subst e e2
  obtain ⟨w2, r⟩ := w1.pops hl
  obtain ⟨v, v2, rfl, i, i2⟩ := all2 (rels_d r)
  obtain ⟨k, a, xs, rfl, hs, ha⟩ := is_seq hd i
  obtain ⟨k2, a2, xs2, rfl, hs2, ha2⟩ := is_seq hd2 i2
  have le : (zipD2 es es2).length = min es.length es2.length := by unfold zipD2; simp
  have s1 : ∀ {I2 H2}, Ex I I2 → Ex I2 H2 → SqK K H2 k a xs := fun e1 e2 => sqK_ex e2 (sqK_ex e1 hs)
  have s2 : ∀ {I2 H2}, Ex I I2 → Ex I2 H2 → SqK K H2 k2 a2 xs2 := fun e1 e2 => sqK_ex e2 (sqK_ex e1 hs2)
  refine ⟨k, k2, a, a2, xs, xs2, rfl, sqK_ex w2.fr.ih hs, sqK_ex w2.fr.ih hs2, q _ H1 g1 _ I ls w2 ⟨fun i I2 H2 e1 e2 hi => ⟨xs, xs2, s1 e1 e2, s2 e1 e2, by rw [ha.length]; omega, by rw [ha2.length]; omega⟩, fun I2 H2 e1 e2 => ⟨xs, xs2, s1 e1 e2, s2 e1 e2, by rw [le, ha.length, ha2.length]⟩, fun i d I2 H2 x H' e1 e2 hi hy => ?_⟩ p⟩
  obtain ⟨T, y, z, rfl, hT, rfl, f1, f2⟩ := hy
  obtain ⟨dy, ey, iy⟩ := (ha.mono e1).getV (f1 xs (s1 e1 e2))
  obtain ⟨dz, ez, iz⟩ := (ha2.mono e1).getV (f2 xs2 (s2 e1 e2))
  have ed : d = .tuple [dy, dz] := by
    unfold zipD2 at hi
    rw [List.getElem?_map, zip_at ey ez] at hi
    exact (Option.some.inj hi).symm
  subst ed
  exact ⟨upd I2 T (.tup [y, z]), fr_new e2 hT, .tup (.inl (.inl upd_same)) (IsAll.mono (fr_new (o := .tup [y, z]) e2 hT).ii (.cons iy (.cons iz .nil)))⟩
theorem all3 {ws : List V} {d e f : D} (h : IsAll K I ws [d, e, f]) : ∃ v w x, ws = [v, w, x] ∧ Is K I v d ∧ Is K I w e ∧ Is K I x f := by
  cases h with | cons h t => obtain ⟨w, x, rfl, q, r⟩ := all2 t; exact ⟨_, w, x, rfl, h, q, r⟩
theorem gi_zip3 {ta : TA} {post : List D → List Cell → Prop} (h : GoDs K n ta ρ ts g fun ds g1 => ∃ d d2 d3 es es2 es3, ds = [d, d2, d3] ∧ (d = .list es ∨ d = .tuple es) ∧ (d2 = .list es2 ∨ d2 = .tuple es2) ∧ (d3 = .list es3 ∨ d3 = .tuple es3) ∧ post (zipD3 es es2 es3) g1) : GoI K n (iZip3 K ta) ρ ts g post := by
  intro I0 H0 bs σ vs H hn w R q
  refine h I0 H0 bs σ vs H hn w _ fun ws H1 ss g1 hl ⟨I, ls, w1⟩ ⟨ds, e, d, d2, d3, es, es2, es3, e2, hd, hd2, hd3, p⟩ => ?_
  subst e e2
  obtain ⟨w2, r⟩ := w1.pops hl
  obtain ⟨v, v2, v3, rfl, i, i2, i3⟩ := all3 (rels_d r)
  obtain ⟨k, a, xs, rfl, hs, ha⟩ := is_seq hd i
  obtain ⟨k2, a2, xs2, rfl, hs2, ha2⟩ := is_seq hd2 i2
  obtain ⟨k3, a3, xs3, rfl, hs3, ha3⟩ := is_seq hd3 i3
  have le : (zipD3 es es2 es3).length = min (min es.length es2.length) es3.length := by unfold zipD3; simp [Nat.min_assoc]
  have s1 : ∀ {I2 H2}, Ex I I2 → Ex I2 H2 → SqK K H2 k a xs := fun e1 e2 => sqK_ex e2 (sqK_ex e1 hs)
  have s2 : ∀ {I2 H2}, Ex I I2 → Ex I2 H2 → SqK K H2 k2 a2 xs2 := fun e1 e2 => sqK_ex e2 (sqK_ex e1 hs2)
  have s3 : ∀ {I2 H2}, Ex I I2 → Ex I2 H2 → SqK K H2 k3 a3 xs3 := fun e1 e2 => sqK_ex e2 (sqK_ex e1 hs3)
  refine ⟨k, k2, k3, a, a2, a3, xs, xs2, xs3, rfl, sqK_ex w2.fr.ih hs, sqK_ex w2.fr.ih hs2, sqK_ex w2.fr.ih hs3, q _ H1 g1 _ I ls w2 ⟨fun i I2 H2 e1 e2 hi => ⟨xs, xs2, xs3, s1 e1 e2, s2 e1 e2, s3 e1 e2, by rw [ha.length]; omega, by rw [ha2.length]; omega, by rw [ha3.length]; omega⟩, fun I2 H2 e1 e2 => ⟨xs, xs2, xs3, s1 e1 e2, s2 e1 e2, s3 e1 e2, by rw [le, ha.length, ha2.length, ha3.length]⟩, fun i d I2 H2 x H' e1 e2 hi hy => ?_⟩ p⟩
  obtain ⟨T, y, z, u, rfl, hT, rfl, f1, f2, f3⟩ := hy
  obtain ⟨dy, ey, iy⟩ := (ha.mono e1).getV (f1 xs (s1 e1 e2))
  obtain ⟨dz, ez, iz⟩ := (ha2.mono e1).getV (f2 xs2 (s2 e1 e2))
  obtain ⟨du, eu, iu⟩ := (ha3.mono e1).getV (f3 xs3 (s3 e1 e2))
  have ed : d = .tuple [dy, dz, du] := by
    unfold zipD3 at hi
    rw [List.getElem?_map, zip_at ey (zip_at ez eu)] at hi
    exact (Option.some.inj hi).symm
  subst ed
  exact ⟨upd I2 T (.tup [y, z, u]), fr_new e2 hT, .tup (.inl (.inl upd_same)) (IsAll.mono (fr_new (o := .tup [y, z, u]) e2 hT).ii (.cons iy (.cons iz (.cons iu .nil))))⟩
end
end Go
namespace Go
open PySem PySem.Spec PyProof.Rows L2 SetMix ZipE
open Evl (Ex)
def dct (kds : List (Key × D)) : D := .dict (kds.map fun p => (kD p.1, p.2))
def lk {α : Type} (kvs : List (Key × α)) (k : Key) : Option α := (kvs.find? fun kv => decide (kv.1 = k)).map (·.2)
def putA {α : Type} (kvs : List (Key × α)) (k : Key) (v : α) : List (Key × α) :=
  if (kvs.any fun kv => decide (kv.1 = k)) = true then kvs.map (fun kv => if kv.1 = k then (kv.1, v) else kv) else kvs ++ [(k, v)]
def mergeA {α : Type} (kvs more : List (Key × α)) : List (Key × α) := more.foldl (fun acc kv => putA acc kv.1 kv.2) kvs
theorem kD_inj : ∀ {a b : Key}, kD a = kD b → a = b
  | .inl _, .inl _, h => by cases h; rfl
  | .inr _, .inr _, h => by cases h; rfl
  | .inl _, .inr _, h => nomatch h
  | .inr _, .inl _, h => nomatch h
section
variable {K : PySem.W.Frag} {I0 H0 I I' H H' : Hp} {bs ls as : List Addr} {ρ ts : List SV} {g : List Cell} {σ : L2.St} {vs : List V} {n : Nat} {X : Cx}
def KVs (K : PySem.W.Frag) (I : Hp) : List (Key × V) → List (Key × D) → Prop := Paired fun p q => p.1 = q.1 ∧ Is K I p.2 q.2
theorem isKV_inv {p : Key × V} {vs : List (Key × V)} {q : D × D} {ds : List (D × D)} (h : IsKV K I (p :: vs) (q :: ds)) : q.1 = kD p.1 ∧ Is K I p.2 q.2 ∧ IsKV K I vs ds := by
  cases h with | cons i t => exact ⟨rfl, i, t⟩
theorem kvs_of : ∀ {kvs : List (Key × V)} {kds : List (Key × D)}, IsKV K I kvs (kds.map fun p => (kD p.1, p.2)) → KVs K I kvs kds
  | [], [], _ => .nil
  | [], _ :: _, h => by cases h
  | _ :: _, [], h => by cases h
  | _ :: kvs, _ :: kds, h => by
    obtain ⟨a, b, c⟩ := isKV_inv h
    exact .cons ⟨(kD_inj a).symm, b⟩ (kvs_of c)
theorem lk_pos {α : Type} {q : Key × α} {r : List (Key × α)} {k : Key} (z : q.1 = k) : lk (q :: r) k = some q.2 := by
  unfold lk
  rw [List.find?_cons_of_pos (by rw [decide_eq_true_eq]; exact z)]
  rfl
theorem lk_neg {α : Type} {q : Key × α} {r : List (Key × α)} {k : Key} (z : ¬ q.1 = k) : lk (q :: r) k = lk r k := by
  unfold lk
  rw [List.find?_cons_of_neg (by rw [decide_eq_true_eq]; exact z)]
theorem of_kvs : ∀ {kvs : List (Key × V)} {kds : List (Key × D)}, KVs K I kvs kds → IsKV K I kvs (kds.map fun p => (kD p.1, p.2))
  | _, _, .nil => .nil
  | (_, _) :: _, (_, _) :: _, .cons ⟨e, i⟩ t => by
    dsimp only at e
    subst e
    exact .cons i (of_kvs t)
theorem KVs.mono (e : Ex I I') {kvs : List (Key × V)} {kds : List (Key × D)} (h : KVs K I kvs kds) : KVs K I' kvs kds := Paired.imp (fun _ _ ⟨a, b⟩ => ⟨a, b.mono e⟩) h
theorem KVs.any {k : Key} : ∀ {kvs : List (Key × V)} {kds : List (Key × D)}, KVs K I kvs kds → (kvs.any fun kv => decide (kv.1 = k)) = (kds.any fun kv => decide (kv.1 = k))
  | _, _, .nil => rfl
  | _, _, .cons ⟨e, _⟩ t => by rw [List.any_cons, List.any_cons, e, KVs.any t]
theorem KVs.map1 {k : Key} {v : V} {d : D} (i : Is K I v d) : ∀ {kvs : List (Key × V)} {kds : List (Key × D)}, KVs K I kvs kds → KVs K I (kvs.map fun kv => if kv.1 = k then (kv.1, v) else kv) (kds.map fun kv => if kv.1 = k then (kv.1, d) else kv)
  | _, _, .nil => .nil
  | _, _, .cons (a := p) (b := q) ⟨e, j⟩ t => by
    refine .cons ?_ (KVs.map1 i t)
    dsimp only
    by_cases h : q.1 = k
    · rw [if_pos h, if_pos (e.trans h)]; exact ⟨e, i⟩
    · rw [if_neg h, if_neg (fun y => h (e ▸ y))]; exact ⟨e, j⟩
theorem KVs.put {k : Key} {v : V} {d : D} (i : Is K I v d) {kvs : List (Key × V)} {kds : List (Key × D)} (h : KVs K I kvs kds) : KVs K I (putK kvs k v) (putA kds k d) := by
  unfold putK putA
  rw [h.any]
  split
  · exact h.map1 i
  · exact Paired.app h (.cons ⟨rfl, i⟩ .nil)
theorem KVs.merge : ∀ {more : List (Key × V)} {md : List (Key × D)} {kvs : List (Key × V)} {kds : List (Key × D)}, KVs K I more md → KVs K I kvs kds → KVs K I (mergeK kvs more) (mergeA kds md)
  | _, _, _, _, .nil, h => h
  | _, _, _, _, .cons (a := p) (b := q) ⟨e, i⟩ t, h => by
    show KVs K I (mergeK (putK _ p.1 p.2) _) (mergeA (putA _ q.1 q.2) _)
    rw [e]
    exact KVs.merge t (h.put i)
theorem KVs.look {k : Key} {d : D} : ∀ {kvs : List (Key × V)} {kds : List (Key × D)}, KVs K I kvs kds → lk kds k = some d → ∃ v, valV kvs k = some v ∧ Is K I v d
  | _, _, .nil, h => by cases h
  | p :: _, q :: _, .cons ⟨e, i⟩ t, h => by
    by_cases z : q.1 = k
    · rw [lk_pos z] at h
      cases h
      exact ⟨p.2, valV_pos (e.trans z), i⟩
    · rw [lk_neg z] at h
      obtain ⟨v, a, b⟩ := KVs.look t h
      exact ⟨v, by rw [valV_neg (fun y => z (e ▸ y))]; exact a, b⟩
theorem KVs.look0 {k : Key} : ∀ {kvs : List (Key × V)} {kds : List (Key × D)}, KVs K I kvs kds → lk kds k = none → valV kvs k = none
  | _, _, .nil, _ => rfl
  | p :: _, q :: _, .cons ⟨e, i⟩ t, h => by
    by_cases z : q.1 = k
    · rw [lk_pos z] at h
      cases h
    · rw [lk_neg z] at h
      rw [valV_neg (fun y => z (e ▸ y))]
      exact KVs.look0 t h
theorem is_dct {v : V} {kds : List (Key × D)} (h : Is K I v (dct kds)) : ∃ a kvs, v = .ref a ∧ I a = some (.dK kvs) ∧ KVs K I kvs kds := by
  unfold dct at h
  generalize hx : (kds.map fun p => (kD p.1, p.2)) = l at h
  cases h with
  | dic a b => subst hx; exact ⟨_, _, rfl, a, kvs_of b⟩
  | op q =>
    cases kds with
    | nil => cases hx
    | cons p r =>
      obtain ⟨k, d⟩ := p
      cases k <;> simp [kD] at hx
theorem is_kV {v : V} {k : Key} (h : Is K I v (kD k)) : v = kV k := by
  cases k with
  | inl i => exact is_int h
  | inr x => exact is_str h
/-- d[k] -/
theorem gd_dget {td ty : TE} {post : D → List Cell → Prop} (h : GoD K n td ρ ts g fun d g1 => ∃ kds, d = dct kds ∧ GoD K n ty ρ (.d d :: ts) g1 fun dk g2 => ∃ k v, dk = kD k ∧ lk kds k = some v ∧ post v g2) : GoD K n (tDGet td ty) ρ ts g post := by
  intro I0 H0 bs σ vs H hn w Q q
  refine h I0 H0 bs σ vs H hn w _ fun v H1 s g1 w1 ⟨d, e, kds, e2, p⟩ => ?_
  subst e e2
  refine p I0 H0 bs σ _ H1 hn w1 _ fun y H2 s2 g2 ⟨I, ls, w2⟩ ⟨dk, e, k, dv, e2, hk, pp⟩ => ?_
  subst e e2
  obtain ⟨w3, r2⟩ := w2.pop
  obtain ⟨w4, r1⟩ := w3.pop
  cases r1 with
  | d i1 =>
    cases r2 with
    | d i2 =>
      obtain ⟨a, kvs, rfl, ha, hv⟩ := is_dct i1
      cases is_kV i2
      obtain ⟨u, hu, iu⟩ := hv.look hk
      exact ⟨a, u, rfl, .inl ⟨kvs, k, .inl (w4.fr.ih _ _ ha), rfl, hu.symm⟩, q u H2 (.d dv) g2 ⟨I, ls, w4.push (.d iu)⟩ ⟨dv, rfl, pp⟩⟩
/-- d.get(k) -/
theorem gd_dget1 {td ty : TE} {post : D → List Cell → Prop} (h : GoD K n td ρ ts g fun d g1 => ∃ kds, d = dct kds ∧ GoD K n ty ρ (.d d :: ts) g1 fun dk g2 => ∃ k, dk = kD k ∧ (∀ v, lk kds k = some v → post v g2) ∧ (lk kds k = none → post .none g2)) : GoD K n (tDGet1 td ty) ρ ts g post := by
  intro I0 H0 bs σ vs H hn w Q q
  refine h I0 H0 bs σ vs H hn w _ fun v H1 s g1 ⟨I1, ls1, w1⟩ ⟨d, e, kds, e2, p⟩ => ?_
  subst e e2
  have w1' := w1
  obtain ⟨w0, r0⟩ := w1.pop
  cases r0 with
  | d i0 =>
    obtain ⟨a, kvs, rfl, ha, hv⟩ := is_dct i0
    refine ⟨a, rfl, .inl ⟨kvs, .inl (w0.fr.ih _ _ ha)⟩, p I0 H0 bs σ _ H1 hn ⟨I1, ls1, w1'⟩ _ fun y H2 s2 g2 ⟨I, ls, w2⟩ ⟨dk, e, k, e2, ps, pn⟩ => ?_⟩
    subst e e2
    obtain ⟨w3, r2⟩ := w2.pop
    obtain ⟨w4, r1⟩ := w3.pop
    cases r1 with
    | d i1 =>
      cases r2 with
      | d i2 =>
        obtain ⟨a', kvs, e, ha, hv⟩ := is_dct i1
        cases e
        cases is_kV i2
        refine ⟨valV kvs k, .inl ⟨kvs, k, .inl (w4.fr.ih _ _ ha), rfl, rfl⟩, ?_⟩
        cases z : lk kds k with
        | none =>
          rw [hv.look0 z]
          exact q .non H2 (.d .none) g2 ⟨I, ls, w4.push (.d .non)⟩ ⟨_, rfl, pn z⟩
        | some dv =>
          obtain ⟨u, hu, iu⟩ := hv.look z
          rw [hu]
          exact q u H2 (.d dv) g2 ⟨I, ls, w4.push (.d iu)⟩ ⟨dv, rfl, ps dv z⟩
/-- dict(xs), xs a list of pairs -/
def rDictP (K : PySem.W.Frag) : List V → Hp → VK → Prop := fun xs H Q => ∃ (a : Addr) (ps : List Addr) (kvs : List (Key × V)), xs = [.ref a] ∧ SqL K H a (ps.map V.ref) ∧ Paired (fun p kv => SqT K H p [kV kv.1, kv.2]) ps kvs ∧ ∀ p, H p = none → Q (.ref p) (upd H p (.dK (mergeK [] kvs)))
theorem call_dictA (hc : X.calm = true) : CallR X (.type "dict") (rDictP X.K) := call_dictP hc
def prD2 (p : Key × D) : D := .tuple [kD p.1, p.2]
theorem pairs_dct (ex : Ex I H) : ∀ {xs : List V} {kds : List (Key × D)}, IsAll K I xs (kds.map prD2) → ∃ ps kvs, xs = ps.map V.ref ∧ Paired (fun p (kv : Key × V) => SqT K H p [kV kv.1, kv.2]) ps kvs ∧ KVs K I kvs kds
  | _, [], .nil => ⟨[], [], rfl, .nil, .nil⟩
  | _, (k, d) :: kds, .cons i t => by
    obtain ⟨ps, kvs, e, hp, hk⟩ := pairs_dct ex t
    obtain ⟨a, ys, rfl, hs, ha⟩ := is_tup (show Is K I _ (.tuple [kD k, d]) from i)
    obtain ⟨v, w, rfl, i1, i2⟩ := all2 ha
    cases is_kV i1
    exact ⟨a :: ps, (k, w) :: kvs, by rw [e]; rfl, .cons (Evl.ex_t ex hs) hp, .cons ⟨rfl, i2⟩ hk⟩
theorem opd_dict {kds : List (Key × D)} {post : D → Prop} (p : post (dct (mergeA [] kds))) : OpD K (rDictP K) [.list (kds.map prD2)] post := fun I H ws ex hw Q q => by
  obtain ⟨v, rfl, i⟩ := all1 hw
  obtain ⟨a, xs, rfl, hs, ha⟩ := is_list i
  obtain ⟨ps, kvs, rfl, hp, hk⟩ := pairs_dct ex ha
  refine ⟨a, ps, kvs, rfl, .inl (Evl.ex_rd ex hs), hp, fun t ht => ?_⟩
  have f := fr_new (o := .dK (mergeK [] kvs)) ex ht
  exact q _ _ _ _ f (.dic upd_same (of_kvs ((KVs.merge hk .nil).mono f.ii))) p
/-- {k: v for target in iter} -/
theorem Wd.freezeO {p : Addr} {o : HO} (w : Wd K I0 H0 bs ls ρ ts g σ vs I H) (h0 : H0 p = none) (np : p ∉ bs ++ ls) (ip : I p = none) (hp : H p = some o) : Wd K I0 H0 bs ls ρ ts g σ vs (upd I p o) H := by
  have ex : Ex I (upd I p o) := Ex.new ip
  refine ⟨⟨w.fr.ii.trans ex, fun a u e => ?_, w.fr.fr, w.fr.dm, fun a e z => ?_⟩, w.ce.keep ex (fun _ _ _ e => e) (fun a m e => by rw [upd_ne (ne_mem m np)]; exact e), w.lo, w.rs.mono ex, w.rv.mono ex⟩
  · by_cases y : a = p
    · subst y; rw [upd_same] at e; rw [hp]; exact e
    · rw [upd_ne y] at e; exact w.fr.ih a u e
  · rw [upd_ne (fun y : a = p => e (by rw [y]; exact h0))]; exact w.fr.nw a e z
theorem gd_dc {wi : TI} {gt : TG} {tt : TT} {tk tv : TE} {js : List Nat} {post : D → List Cell → Prop} (hm : MonG gt) (hj : InJs js gt)
    (h : GoI K n wi ρ ts g fun items g1 => items.length ≤ 50000 ∧ ∃ Iv : Nat → List (Key × D) → List Cell → Prop, Iv 0 [] g1 ∧
      (∀ i d acc g2, items[i]? = some d → Iv i acc g2 → GoG K g2.length gt d (wipeS ρ js) ts g2 fun ρ' => GoT K g2.length tt ρ' ts g2 fun b g3 =>
        (b = true → GoD K g2.length tk ρ' ts g3 fun dk g4 => GoD K g2.length tv ρ' (.d dk :: ts) g4 fun dv g5 => ∃ k, dk = kD k ∧ g5.length = g2.length ∧ Iv (i + 1) (putA acc k dv) g5) ∧ (b = false → g3.length = g2.length ∧ Iv (i + 1) acc g3)) ∧
      (∀ acc g2, Iv items.length acc g2 → post (dct acc) g2)) : GoD K n (tDc wi gt tt tk tv js) ρ ts g post := by
  intro I0 H0 bs σ vs H hn w Q q
  refine h I0 H0 bs σ vs H hn w _ fun J H1 g1 items I1 ls w1 wk ⟨hz, Iv, iv0, step, fin⟩ Dl hD => ?_
  have h0 : H0 Dl = none := by
    cases z : H0 Dl with
    | none => rfl
    | some o => exact absurd hD (w1.fr.dm Dl (by rw [z]; exact fun y => nomatch y))
  have nD : Dl ∉ bs ++ ls := fun m => w1.ce.in_ Dl m hD
  have i1D : I1 Dl = none := Evl.fresh_back w1.fr.ih hD
  refine ⟨fun i m H => ∃ I acc accV g, i + m = items.length ∧ Wd K I0 H0 bs ls ρ ts g σ vs I H ∧ Ex I1 I ∧ I Dl = none ∧ H Dl = some (.dK accV) ∧ KVs K I accV acc ∧ acc.length ≤ i ∧ Iv i acc g, ⟨items.length, I1, [], [], g1, by omega, ?_, Ex.refl I1, i1D, upd_same, .nil, Nat.le_refl _, iv0⟩, fun i m H2 hW => ?_⟩
  · have hx : ∀ b o, H1 b = some o → upd H1 Dl (.dK []) b = some o := fun b o e => by rw [upd_ne (ne_of_none e hD)]; exact e
    refine ⟨⟨w1.fr.ii, fun b o e => hx b o (w1.fr.ih b o e), fun b o m e => hx b o (w1.fr.fr b o m e), fun b e => ?_, w1.fr.nw⟩, w1.ce.keep (Ex.refl I1) (fun b _ o e => hx b o e) (fun _ _ e => e), w1.lo, w1.rs, w1.rv⟩
    cases z : H1 b with
    | none => exact absurd z (w1.fr.dm b e)
    | some o => rw [hx b o z]; exact fun y => nomatch y
  · obtain ⟨I, acc, accV, g2, em, wd, exI, iD, hDl, ia, hacc, iv⟩ := hW
    by_cases hi : i < items.length
    · refine .inr ⟨wk.go i I H2 exI wd.fr.ih hi, fun H' => ∃ I acc accV g, Wd K I0 H0 bs ls ρ ts g σ vs I H' ∧ Ex I1 I ∧ I Dl = none ∧ H' Dl = some (.dK accV) ∧ KVs K I accV acc ∧ acc.length ≤ i + 1 ∧ Iv (i + 1) acc g, fun H' ⟨I', acc', accV', g', a, b, c, d, e, f, k⟩ => ⟨m - 1, by omega, I', acc', accV', g', by omega, a, b, c, d, e, f, k⟩, fun x H3 hy => ?_⟩
      have hdi : items[i]? = some items[i] := List.getElem?_eq_getElem hi
      obtain ⟨I3, f3, ix⟩ := wk.yld i _ I H2 x H3 exI wd.fr.ih hdi hy
      have wd3 := (wd.step f3)
      have hD3 : H3 Dl = some (.dK accV) := f3.fr Dl _ (fun z => nomatch z) hDl
      have iD3 : I3 Dl = none := f3.nw Dl (by rw [hDl]; exact fun y => nomatch y) iD
      have len2 : (bs ++ ls).length = g2.length := wd3.ce.len
      have wB : World K I3 H3 (bs ++ ls) (wipeS ρ js) (.d items[i] :: ts) g2 (wipe σ js) (x :: vs) H3 := by
        refine ⟨I3, [], Wd.mk (Fr.refl wd3.fr.ih) ?_ (fun _ z => nomatch z) ?_ ?_⟩
        · rw [List.append_nil]; exact wd3.ce
        · rw [List.append_nil]; exact rels_wipes wd3.rs js
        · rw [List.append_nil]; exact .cons (.d ix) wd3.rv
      have back : ∀ ρ' σ' H' g' ts' vs', World K I3 H3 (bs ++ ls) ρ' ts' g' σ' vs' H' → g'.length = g2.length → ∃ I', Wd K I0 H0 bs ls ρ ts g' σ vs I' H' ∧ Ex I3 I' ∧ I' Dl = none ∧ H' Dl = some (.dK accV) ∧ Rels K I' (bs ++ ls) (vs'.map some) ts' := by
        intro ρ' σ' H' g' ts' vs' ⟨I', ls', w'⟩ hl
        have : ls' = [] := by
          have e := w'.ce.len
          rw [List.length_append, hl, len2] at e
          exact List.length_eq_zero_iff.mp (by omega)
        subst this
        have ce := w'.ce
        have rv := w'.rv
        rw [List.append_nil] at ce rv
        exact ⟨I', ⟨wd3.fr.deep wd3.lo w'.fr, ce, wd3.lo, wd3.rs.mono w'.fr.ii, wd3.rv.mono w'.fr.ii⟩, w'.fr.ii, w'.fr.nw Dl (by rw [hD3]; exact fun y => nomatch y) iD3, w'.fr.fr Dl _ nD hD3, rv⟩
      have st := step i _ acc g2 hdi iv
      have gG := st I3 H3 (bs ++ ls) (wipe σ js) vs x H3 len2 wB (fun σ2 H4 => tt σ2 H4 fun b H5 => if b = true then tk σ2 H5 fun y H6 => tv σ2 H6 fun z H7 => ∃ kvs k, y = kV k ∧ H7 Dl = some (.dK kvs) ∧ kvs.length < sizeLine ∧ (∃ I acc2 accV g, Wd K I0 H0 bs ls ρ ts g σ vs I (upd H7 Dl (.dK (putK kvs k z))) ∧ Ex I1 I ∧ I Dl = none ∧ (upd H7 Dl (.dK (putK kvs k z))) Dl = some (.dK accV) ∧ KVs K I accV acc2 ∧ acc2.length ≤ i + 1 ∧ Iv (i + 1) acc2 g) else (∃ I acc accV g, Wd K I0 H0 bs ls ρ ts g σ vs I H5 ∧ Ex I1 I ∧ I Dl = none ∧ H5 Dl = some (.dK accV) ∧ KVs K I accV acc ∧ acc.length ≤ i + 1 ∧ Iv (i + 1) acc g)) fun σ2 ρ2 H4 w4 gT => ?_
      · refine hm x _ H3 _ _ (fun σ2 H4 q4 => ?_) (hj x _ H3 _ gG)
        obtain ⟨q4, e4⟩ := q4
        rw [wipe_wipe] at e4
        exact ⟨e4, q4⟩
      · refine gT I3 H3 (bs ++ ls) σ2 vs H4 len2 w4 _ fun b H5 g5 w5 ⟨pt, pf⟩ => ?_
        cases b with
        | true =>
          rw [if_pos rfl]
          refine pt rfl I3 H3 (bs ++ ls) σ2 vs H5 len2 w5 _ fun y H6 s g6 w6 ⟨dk, es, p6⟩ => ?_
          subst es
          refine p6 I3 H3 (bs ++ ls) σ2 _ H6 len2 w6 _ fun z H7 s7 g7 w7 ⟨dv, es, k, ek, hl7, iv7⟩ => ?_
          subst es ek
          obtain ⟨I6, wd6, ex6, i6D, h6D, rv6⟩ := back _ _ _ _ _ _ w7 hl7
          cases rv6 with
          | cons rz rt =>
            cases rt with
            | cons ry _ =>
              cases rz with
              | d iz =>
                cases ry with
                | d iy =>
                  have exx : Ex I1 I6 := (exI.trans f3.ii).trans ex6
                  have la : accV.length = acc.length := Paired.length ia
                  have lp : (putA acc k dv).length ≤ acc.length + 1 := by
                    unfold putA
                    split
                    · rw [List.length_map]; omega
                    · rw [List.length_append]; exact Nat.le_refl _
                  refine ⟨accV, k, is_kV iy, h6D, by rw [la]; exact Evl.sz_lt (by omega), I6, putA acc k dv, _, g7, ?_, exx, i6D, upd_same, ((ia.mono f3.ii).mono ex6).put iz, by omega, iv7⟩
                  have hx : ∀ b o, b ≠ Dl → H7 b = some o → upd H7 Dl (.dK (putK accV k z)) b = some o := fun b o nb e => by rw [upd_ne nb]; exact e
                  refine ⟨⟨wd6.fr.ii, fun b o e => hx b o (fun y => by rw [y, i6D] at e; cases e) (wd6.fr.ih b o e), fun b o m e => hx b o (fun y => by rw [y, h0] at e; cases e) (wd6.fr.fr b o m e), fun b e => ?_, wd6.fr.nw⟩, wd6.ce.keep (Ex.refl I6) (fun b m o e => hx b o (ne_mem m nD) e) (fun _ _ e => e), wd6.lo, wd6.rs, wd6.rv⟩
                  cases z2 : H7 b with
                  | none => exact absurd z2 (wd6.fr.dm b e)
                  | some o => rw [hx b o (fun y : b = Dl => e (by rw [y]; exact h0)) z2]; exact fun y => nomatch y
        | false =>
          rw [if_neg Bool.false_ne_true]
          obtain ⟨hl5, iv5⟩ := pf rfl
          obtain ⟨I6, wd6, ex6, i6D, h6D, _⟩ := back _ _ _ _ _ _ w5 hl5
          exact ⟨I6, acc, accV, g5, wd6, (exI.trans f3.ii).trans ex6, i6D, h6D, (ia.mono f3.ii).mono ex6, by omega, iv5⟩
    · have e : i = items.length := by omega
      subst e
      refine .inl ⟨wk.stop I H2 exI wd.fr.ih, ?_⟩
      refine q (.ref Dl) H2 (.d (dct acc)) g2 ⟨upd I Dl (.dK accV), ls, (wd.freezeO h0 nD iD hDl).push (.d (.dic upd_same (of_kvs (ia.mono (Ex.new iD)))))⟩ ⟨_, rfl, fin acc g2 iv⟩
end
end Go
namespace Go
open PySem PySem.Spec PyProof.Rows L2 SetMix ZipE
theorem bt_len : bootBuiltins "len" = some (.builtin "len") := by decide +kernel
theorem bt_abs : bootBuiltins "abs" = some (.builtin "abs") := by decide +kernel
theorem bt_max : bootBuiltins "max" = some (.builtin "max") := by decide +kernel
theorem bt_min : bootBuiltins "min" = some (.builtin "min") := by decide +kernel
theorem bt_any : bootBuiltins "any" = some (.builtin "any") := by decide +kernel
theorem bt_all : bootBuiltins "all" = some (.builtin "all") := by decide +kernel
theorem bt_sorted : bootBuiltins "sorted" = some (.builtin "sorted") := by decide +kernel
theorem bt_isinstance : bootBuiltins "isinstance" = some (.builtin "isinstance") := by decide +kernel
theorem bt_tuple : bootBuiltins "tuple" = some (.type "tuple") := by decide +kernel
theorem bt_list : bootBuiltins "list" = some (.type "list") := by decide +kernel
theorem bt_int : bootBuiltins "int" = some (.type "int") := by decide +kernel
theorem bt_bool : bootBuiltins "bool" = some (.type "bool") := by decide +kernel
theorem bt_str : bootBuiltins "str" = some (.type "str") := by decide +kernel
theorem bt_dict : bootBuiltins "dict" = some (.type "dict") := by decide +kernel
theorem bt_set : bootBuiltins "set" = some (.type "set") := by decide +kernel
section
variable {K : PySem.W.Frag} {n : Nat} {ρ ts : List SV} {g : List Cell}
/-- a call that is lent a cell, its first argument a name -/
theorem gd_bag {R : RSpec} {E : XK} {i j : Nat} {tr : TA} {post : D → List Cell → Prop} (hi : ρ[i]? = some (.c j))
    (h : GoDs K n tr ρ (.c j :: ts) g fun ds g1 => ∃ b, g1[j]? = some (some b) ∧ R (.c 0 :: ds.map SV.d) [some b] fun d gb => ∃ b', gb = [some b'] ∧ post d (g1.set j (some b'))) : GoD K n (tCall (spOf K R) [] E (tCons (tVar i) tr)) ρ ts g post :=
  gd_callB (ga_cons (ge_var hi (fun z => nomatch z) (GoA.imp h fun ss g1 ⟨ds, e, b, hb, p⟩ => ⟨j, ds, b, by rw [e], hb, p⟩)))
theorem gd_lenScr {i : Nat} {ns : List Int} {post : D → List Cell → Prop} (hi : ρ[i]? = some (.s ns)) (p : post (.int ns.length) g) : GoD K n (tCB (rLenA K) (tCons (tVar i) tNil)) ρ ts g post :=
  gd_lenN rLenA_seq (ge_var hi (fun z => nomatch z) ⟨ns, rfl, p⟩)
theorem gd_ixScr {i : Nat} {ns : List Int} {tb : TE} {post : D → List Cell → Prop} (hi : ρ[i]? = some (.s ns)) (h : GoD K n tb ρ (.s ns :: ts) g fun di g2 => ∃ (i : Int) (z : Int), di = .int i ∧ atI ns i = some z ∧ post (.int z) g2) : GoD K n (tOp (rIx K) (tVar i) tb) ρ ts g post :=
  gd_ixN (ge_var hi (fun z => nomatch z) ⟨ns, rfl, h⟩)
theorem gd_ixCel {i j : Nat} {tb : TE} {post : D → List Cell → Prop} (hi : ρ[i]? = some (.c j)) (h : GoD K n tb ρ (.c j :: ts) g fun di g2 => ∃ (i : Int) (ds : List D) (d : D), di = .int i ∧ g2[j]? = some (some ds) ∧ atI ds i = some d ∧ post d g2) : GoD K n (tOp (rIx K) (tVar i) tb) ρ ts g post :=
  gd_ixC (ge_var hi (fun z => nomatch z) ⟨j, rfl, h⟩)
end
end Go
namespace Go
open PySem PySem.Spec PyProof.Rows L2 SetMix ZipE
local macro_rules | `(tactic| walk_at "g") => `(tactic| first
  | ((with_reducible refine gd_var (d := ?dd) ?hv ?_); (case hv => exact rfl))
  | ((with_reducible refine gd_ixScr (ns := ?ns) ?hv ?_); (case hv => exact rfl))
  | ((with_reducible refine gd_ixCel (j := ?jj) ?hv ?_); (case hv => exact rfl))
  | ((with_reducible refine gd_lenScr (ns := ?ns) ?hv ?_); (case hv => exact rfl))
  | with_reducible first
    | refine gs_seq ?_ | refine gs_next ?_ | refine gs_ret ?_ | refine gs_asgD ?_ | refine gs_if ?_
    | refine gt_test ?_ | refine gt_B ?_ | refine gt_and ?_ | refine gt_or ?_ | refine gt_not ?_ | refine gt_yes ?_
    | refine gd_int ?_ | refine gd_str ?_ | refine gd_bl ?_ | refine gd_non ?_
    | refine gd_op ?_ | refine gd_tup ?_ | refine gd_lst ?_
    | refine gd_cb (r := rLenA _) ?_ | refine gd_cb (r := rTupleA _) ?_ | refine gd_cb (r := rAbsA) ?_ | refine gd_cb (r := rMax2A) ?_ | refine gd_cb (r := rMin2A) ?_ | refine gd_cb (r := rIntA) ?_ | refine gd_cb (r := rAny _) ?_ | refine gd_cb (r := rAll _) ?_ | refine gd_cb (r := rDictP _) ?_ | refine gd_cb (r := rMax _) ?_ | refine gd_cb (r := rMin _) ?_
    | refine gs_cons ?_ | refine gs_nil ?_
    | refine gd_and ?_ | refine gd_or ?_ | refine gd_not ?_
    | refine opd_addI ?_ | refine opd_sub ?_ | refine opd_lt ?_ | refine opd_le ?_ | refine opd_gt ?_ | refine opd_ge ?_
    | refine opd_lenL ?_ | refine opd_lenT ?_ | refine opd_tupleL ?_ | refine opd_tupleT ?_ | refine opd_max2 ?_ | refine opd_min2 ?_ | refine opd_abs ?_ | refine opd_intB ?_
    | refine Exists.intro _ (And.intro rfl ?_))
/-! ### drawing -/
def Bag (b : List D) : Prop := ∃ x y : Int, b = [.int x, .int y] ∧ 0 ≤ x ∧ 0 ≤ y ∧ y < 2147483647
def R_law_bag : NSpec := fun ss post => ∃ (ns : List Int) (k : Nat), ss = [.s ns, .d (.int k)] ∧ k ≤ 63 ∧ ∀ b, Bag b → post b
def R_law_take : RSpec := fun ss g post => ∃ (b : List D) (many : Int), ss = [.c 0, .d (.int many)] ∧ g = [some b] ∧ Bag b ∧ 1 ≤ many ∧ many < 2 ^ 200 ∧ ∀ (m : Int) b', 0 ≤ m → m < many → Bag b' → post (.int m) [some b']
def R_law_of : RSpec := fun ss g post => ∃ (b : List D) (d : D) (es : List D), ss = [.c 0, .d d] ∧ g = [some b] ∧ Bag b ∧ (d = .list es ∨ d = .tuple es) ∧ es ≠ [] ∧ es.length ≤ 1000 ∧ ∀ e b', e ∈ es → Bag b' → post e [some b']
section
variable {K : PySem.W.Frag} {wd : PySem.World}
def t_law_bag (K : PySem.W.Frag) (wd : PySem.World) : TS := (tSeq (tAsg (tC (.int 0)) (gName 2)) (tSeq (tIfS (tTest (tOp (rI0 fun i j => V.bl (decide (i < j))) (tVar 1) (tCB (rLenA K) (tCons (tVar 0) tNil)))) (tAsg (tCB rAbsA (tCons (tOp (rIx K) (tVar 0) (tVar 1)) tNil)) (gName 2)) tNext) (tSeq (tIfS (tTest (tOp (rI0 fun i j => V.bl (decide (i < j))) (tVar 2) (tOp (rI CPow fun i j => V.int (i ^ j.toNat)) (tC (.int 10)) (tC (.int 18))))) (tRet (tLst (tCons (tC (.int 0)) (tCons (tOp (rAddA K) (tC (.int 1)) (tOp (rI (fun _ j => 0 < j) fun i j => V.int (i % j)) (tOp (rAddA K) (tOp (rI CMulW fun i j => V.int (i * j)) (tVar 2) (tC (.int 7919))) (tOp (rI CMulW fun i j => V.int (i * j)) (tC (.int 104729)) (tVar 1))) (tC (.int 2147483646)))) tNil)))) tNext) (tRet (tLst (tCons (tVar 2) (tCons (tOp (rAddA K) (tC (.int 1)) (tOp (rI (fun _ j => 0 < j) fun i j => V.int (i % j)) (tOp (rAddA K) (tVar 2) (tVar 1)) (tC (.int 2147483646)))) tNil)))))))
theorem nab {i : Int} {n : Nat} (h0 : 0 ≤ i) (h : i < n) : i.natAbs < n := by
  have := Int.natAbs_of_nonneg h0
  omega
theorem bag_mk {x z : Int} (h : 0 ≤ x) : Bag [.int x, .int (1 + z % 2147483646)] := ⟨x, _, rfl, h, by have := Int.emod_nonneg z (show (2147483646 : Int) ≠ 0 by decide); omega, by have := Int.emod_lt_of_pos z (show (0 : Int) < 2147483646 by decide); omega⟩
theorem go_law_bag (ss : List SV) (post : List D → Prop) (h : R_law_bag ss post) : GoS K 0 (t_law_bag K wd) (ss ++ List.replicate (3 - ss.length) .no) [] (KN post) := by
  obtain ⟨ns, k, rfl, hk, p⟩ := h
  unfold t_law_bag
  have rest : ∀ cell : Int, 0 ≤ cell → GoS K 0 (tSeq (tIfS (tTest (tOp (rI0 fun i j => V.bl (decide (i < j))) (tVar 2) (tOp (rI CPow fun i j => V.int (i ^ j.toNat)) (tC (.int 10)) (tC (.int 18))))) (tRet (tLst (tCons (tC (.int 0)) (tCons (tOp (rAddA K) (tC (.int 1)) (tOp (rI (fun _ j => 0 < j) fun i j => V.int (i % j)) (tOp (rAddA K) (tOp (rI CMulW fun i j => V.int (i * j)) (tVar 2) (tC (.int 7919))) (tOp (rI CMulW fun i j => V.int (i * j)) (tC (.int 104729)) (tVar 1))) (tC (.int 2147483646)))) tNil)))) tNext) (tRet (tLst (tCons (tVar 2) (tCons (tOp (rAddA K) (tC (.int 1)) (tOp (rI (fun _ j => 0 < j) fun i j => V.int (i % j)) (tOp (rAddA K) (tVar 2) (tVar 1)) (tC (.int 2147483646)))) tNil))))) [.s ns, .d (.int k), .d (.int cell)] [] (KN post) := by
    intro cell hc
    (repeat (walk_at "g"))
    refine opd_pow ⟨by decide, by decide, by decide⟩ ?_
    (repeat (walk_at "g"))
    refine ⟨fun e => ?_, fun _ => ?_⟩
    · have hlt : cell < 10 ^ 18 := by
        have := of_decide_eq_true e
        exact this
      refine gs_retE (ge_lstC ?_)
      (repeat (walk_at "g"))
      refine opd_mul (wide_mul (a := 64) (b := 64) (nab hc (by omega)) (by decide) (by decide) (by decide) (by decide)) ?_
      (repeat (walk_at "g"))
      refine opd_mul (wide_mul (a := 64) (b := 64) (by decide) (nab (by omega) (by omega)) (by decide) (by decide) (by decide)) ?_
      (repeat (walk_at "g"))
      refine opd_mod (by decide) ?_
      (repeat (walk_at "g"))
      exact ⟨by show 2 ≤ 100000; decide, 0, _, rfl, rfl, p _ (bag_mk (by decide))⟩
    · refine gs_next ?_
      refine gs_retE (ge_lstC ?_)
      (repeat (walk_at "g"))
      refine opd_mod (by decide) ?_
      (repeat (walk_at "g"))
      exact ⟨by show 2 ≤ 100000; decide, 0, _, rfl, rfl, p _ (bag_mk hc)⟩
  (repeat (walk_at "g"))
  refine ⟨fun e => ?_, fun _ => ?_⟩
  · have hlt : (k : Int) < ns.length := of_decide_eq_true e
    (repeat (walk_at "g"))
    have hk2 : k < ns.length := by omega
    refine ⟨k, _, rfl, atI_nat (List.getElem?_eq_getElem hk2), ?_⟩
    walk_at "g"
    walk_at "g"
    refine rest _ ?_
    split <;> omega
  · exact gs_next (rest 0 (by decide))
def t_law_take (K : PySem.W.Frag) (wd : PySem.World) : TS := (tSeq (tIfS (tTest (tOp (rI0 fun i j => V.bl (decide (j < i))) (tOp (rIx K) (tVar 0) (tC (.int 0))) (tC (.int 0)))) (tSeq (tAsg (tOp (rI (fun _ j => 0 < j) fun i j => V.int (i % j)) (tOp (rIx K) (tVar 0) (tC (.int 0))) (tVar 1)) (gName 2)) (tSeq (tAsg (tOp (rI CDivW fun i j => V.int (i / j)) (tOp (rIx K) (tVar 0) (tC (.int 0))) (tVar 1)) (gSub (tVar 0) (tC (.int 0)) rSetL)) (tRet (tVar 2)))) tNext) (tSeq (tAsg (tOp (rI (fun _ j => 0 < j) fun i j => V.int (i % j)) (tOp (rI CMulW fun i j => V.int (i * j)) (tOp (rIx K) (tVar 0) (tC (.int 1))) (tC (.int 48271))) (tC (.int 2147483647))) (gSub (tVar 0) (tC (.int 1)) rSetL)) (tRet (tOp (rI (fun _ j => 0 < j) fun i j => V.int (i % j)) (tOp (rI CDivW fun i j => V.int (i / j)) (tOp (rI (fun _ j => 0 < j) fun i j => V.int (i % j)) (tOp (rI CMulW fun i j => V.int (i * j)) (tOp (rIx K) (tVar 0) (tC (.int 1))) (tOp (rIx K) (tVar 0) (tC (.int 1)))) (tC (.int 2147483629))) (tC (.int 64))) (tVar 1)))))
theorem gd_bagAt {n : Nat} {ρ ts : List SV} {i : Nat} {j : Nat} {post : D → List Cell → Prop} {x y : Int} {z : Int} {d : D} {g : List Cell} (hi : ρ[i]? = some (.c j)) (hg : g[j]? = some (some [.int x, .int y])) (hz : atI [PyData.int x, .int y] z = some d) (p : post d g) : GoD K n (tOp (rIx K) (tVar i) (tC (.int z))) ρ ts g post :=
  gd_ixC (ge_var hi (fun z => nomatch z) ⟨j, rfl, gd_int ⟨z, _, d, rfl, hg, hz, p⟩⟩)
theorem go_law_take (ss : List SV) (g : List Cell) (post : D → List Cell → Prop) (h : R_law_take ss g post) : GoS K g.length (t_law_take K wd) (ss ++ List.replicate (3 - ss.length) .no) g (KF g.length post) := by
  obtain ⟨b, many, rfl, rfl, ⟨x, y, rfl, hx, hy, hy2⟩, h1, h2, p⟩ := h
  unfold t_law_take
  refine gs_seq (gs_if (gt_test (gd_op ?_)))
  refine gd_bagAt rfl rfl rfl ?_
  (repeat (walk_at "g"))
  refine ⟨fun e => ?_, fun e => ?_⟩
  · have hx0 : 0 < x := of_decide_eq_true e
    refine gs_seq (gs_asgD (gd_op ?_))
    refine gd_bagAt rfl rfl rfl ?_
    (repeat (walk_at "g"))
    refine opd_mod (by omega) ?_
    refine gs_seq ?_
    refine gs_set (gd_op (gd_bagAt rfl rfl rfl (gd_var rfl (opd_fdiv (wide_div (b := 200) (by omega) (nab (by omega) (by omega)) (by decide) (by decide)) (ge_var rfl (fun z => nomatch z) ⟨0, rfl, gd_int ⟨0, _, 0, rfl, rfl, rfl, ?_⟩⟩)))))
    refine gs_ret (gd_var rfl ⟨_, rfl, ?_⟩)
    exact p _ _ (Int.emod_nonneg _ (by omega)) (Int.emod_lt_of_pos _ (by omega)) ⟨_, _, rfl, Int.ediv_nonneg hx (by omega), hy, hy2⟩
  · refine gs_next ?_
    refine gs_seq ?_
    have h3 : 0 ≤ y * 48271 % 2147483647 := Int.emod_nonneg _ (by decide)
    have h4 : y * 48271 % 2147483647 < 2147483647 := Int.emod_lt_of_pos _ (by decide)
    refine gs_set (gd_op (gd_op (gd_bagAt rfl rfl rfl (gd_int (opd_mul (wide_mul (a := 64) (b := 64) (nab hy (by omega)) (by decide) (by decide) (by decide) (by decide)) (gd_int (opd_mod (by decide) (ge_var rfl (fun z => nomatch z) ⟨0, rfl, gd_int ⟨1, _, 1, rfl, rfl, rfl, ?_⟩⟩))))))))
    generalize y * 48271 % 2147483647 = z at h3 h4 ⊢
    refine gs_ret (gd_op (gd_op (gd_op (gd_op ?_))))
    refine gd_bagAt rfl rfl rfl ?_
    refine gd_bagAt rfl rfl rfl ?_
    refine opd_mul (wide_mul (a := 64) (b := 64) (nab h3 (by omega)) (nab h3 (by omega)) (by decide) (by decide) (by decide)) ?_
    (repeat (walk_at "g"))
    refine opd_mod (by decide) ?_
    (repeat (walk_at "g"))
    refine opd_fdiv (wide_div (b := 64) (by decide) (by decide) (by decide) (by decide)) ?_
    (repeat (walk_at "g"))
    refine opd_mod (by omega) ?_
    refine ⟨_, rfl, ?_⟩
    exact p _ _ (Int.emod_nonneg _ (by omega)) (Int.emod_lt_of_pos _ (by omega)) ⟨_, _, rfl, hx, h3, h4⟩
end
end Go
namespace Go
open PySem PySem.Spec PyProof.Rows L2 SetMix ZipE
local macro_rules | `(tactic| walk_at "g") => `(tactic| first
  | ((with_reducible refine gd_var (d := ?dd) ?hv ?_); (case hv => exact rfl))
  | ((with_reducible refine gd_ixScr (ns := ?ns) ?hv ?_); (case hv => exact rfl))
  | ((with_reducible refine gd_ixCel (j := ?jj) ?hv ?_); (case hv => exact rfl))
  | ((with_reducible refine gd_lenScr (ns := ?ns) ?hv ?_); (case hv => exact rfl))
  | with_reducible first
    | refine gs_seq ?_ | refine gs_next ?_ | refine gs_ret ?_ | refine gs_asgD ?_ | refine gs_if ?_
    | refine gt_test ?_ | refine gt_B ?_ | refine gt_and ?_ | refine gt_or ?_ | refine gt_not ?_ | refine gt_yes ?_
    | refine gd_int ?_ | refine gd_str ?_ | refine gd_bl ?_ | refine gd_non ?_
    | refine gd_op ?_ | refine gd_tup ?_ | refine gd_lst ?_
    | refine gd_cb (r := rLenA _) ?_ | refine gd_cb (r := rTupleA _) ?_ | refine gd_cb (r := rAbsA) ?_ | refine gd_cb (r := rMax2A) ?_ | refine gd_cb (r := rMin2A) ?_ | refine gd_cb (r := rIntA) ?_ | refine gd_cb (r := rAny _) ?_ | refine gd_cb (r := rAll _) ?_ | refine gd_cb (r := rDictP _) ?_ | refine gd_cb (r := rMax _) ?_ | refine gd_cb (r := rMin _) ?_
    | refine gs_cons ?_ | refine gs_nil ?_
    | refine gd_and ?_ | refine gd_or ?_ | refine gd_not ?_
    | refine opd_addI ?_ | refine opd_sub ?_ | refine opd_lt ?_ | refine opd_le ?_ | refine opd_gt ?_ | refine opd_ge ?_
    | refine opd_lenL ?_ | refine opd_lenT ?_ | refine opd_tupleL ?_ | refine opd_tupleT ?_ | refine opd_max2 ?_ | refine opd_min2 ?_ | refine opd_abs ?_ | refine opd_intB ?_
    | refine Exists.intro _ (And.intro rfl ?_))
/-! ### what is drawn -/
structure Cs where
  nm : Str
  us : Int
  lo : Int
  tm : List Str
  pl : List Int
  fi : Int
structure Rw where
  st : Int
  nm : Str
  rm : Int
structure Hs where
  rooms : Int
  ppl : List Str
def encC (c : Cs) : D := .tuple [.str c.nm, .int c.us, .int c.lo, .tuple (c.tm.map PyData.str), .tuple (c.pl.map PyData.int), .int c.fi]
def encR (r : Rw) : D := .tuple [.int r.st, .str r.nm, .int r.rm]
def encH (h : Hs) : D := .tuple [.int h.rooms, .tuple (h.ppl.map PyData.str)]
def encCs (cs : List Cs) : D := .tuple (cs.map encC)
def encP (pl : List Rw) : D := .tuple (pl.map encR)
def five : List Str := ["ann", "bo", "cy", "dee", "eli"]
def eight : List Str := ["ada", "bel", "cid", "dot", "eve", "fin", "gil", "hob"]
def UpK (ks : List Key) : Prop := ks.Nodup ∧ ks.Pairwise fun a b => PySem.W.dataLe false kD a b = true
def UpS (xs : List Str) : Prop := UpK (xs.map Sum.inr)
def UpI (xs : List Int) : Prop := UpK (xs.map Sum.inl)
structure GoodH (h : Hs) : Prop where
  r1 : 1 ≤ h.rooms
  r4 : h.rooms ≤ 4
  fv : ∀ p ∈ h.ppl, p ∈ five
  up : UpS h.ppl
  ln : h.ppl.length ≤ 5
structure GoodC (h : Hs) (c : Cs) : Prop where
  u1 : 1 ≤ c.us
  u2 : c.us ≤ 200
  l1 : c.us ≤ c.lo
  l2 : c.lo ≤ 400
  tm : ∀ p ∈ c.tm, p ∈ h.ppl
  tl : c.tm.length ≤ 2
  tu : UpS c.tm
  p0 : c.pl ≠ []
  pr : ∀ r ∈ c.pl, 0 ≤ r ∧ r < h.rooms
  pn : c.pl.length ≤ 3
  pu : UpI c.pl
  f0 : 0 ≤ c.fi
  f1 : c.fi ≤ 600
structure GoodCs (h : Hs) (cs : List Cs) : Prop where
  nm : cs.map (·.nm) = eight.take cs.length
  l8 : cs.length ≤ 8
  al : ∀ c ∈ cs, GoodC h c
theorem up_of_sort {ks' ks0 : List Key} (h : ks' = ks0.mergeSort (PySem.W.dataLe false kD)) (nd : ks0.Nodup) : UpK ks' := by
  subst h
  refine ⟨(List.mergeSort_perm _ _).nodup_iff.mpr nd, ?_⟩
  exact PySem.W.sort_pairwise (PySem.W.sortLe_total _ false _) ks0
theorem strs_of_keys : ∀ {ks : List Key}, (∀ k ∈ ks, ∃ x, k = .inr x) → ∃ xs : List Str, ks = xs.map Sum.inr
  | [], _ => ⟨[], rfl⟩
  | k :: ks, h => by
    obtain ⟨x, rfl⟩ := h k List.mem_cons_self
    obtain ⟨xs, rfl⟩ := strs_of_keys fun q hq => h q (List.mem_cons_of_mem _ hq)
    exact ⟨x :: xs, rfl⟩
theorem ints_of_keys : ∀ {ks : List Key}, (∀ k ∈ ks, ∃ x, k = .inl x) → ∃ xs : List Int, ks = xs.map Sum.inl
  | [], _ => ⟨[], rfl⟩
  | k :: ks, h => by
    obtain ⟨x, rfl⟩ := h k List.mem_cons_self
    obtain ⟨xs, rfl⟩ := ints_of_keys fun q hq => h q (List.mem_cons_of_mem _ hq)
    exact ⟨x :: xs, rfl⟩
theorem kD_strs (xs : List Str) : (xs.map (Sum.inr : Str → Key)).map kD = xs.map PyData.str := by rw [List.map_map]; rfl
theorem kD_ints (xs : List Int) : (xs.map (Sum.inl : Int → Key)).map kD = xs.map PyData.int := by rw [List.map_map]; rfl
theorem nodup_sub_len {α : Type} [DecidableEq α] : ∀ {l m : List α}, l.Nodup → (∀ x ∈ l, x ∈ m) → l.length ≤ m.length
  | [], _, _, _ => Nat.zero_le _
  | a :: l, m, hn, h => by
    have hm := h a List.mem_cons_self
    have hn2 := List.nodup_cons.mp hn
    have := nodup_sub_len (l := l) (m := m.erase a) hn2.2 fun x hx => (List.mem_erase_of_ne fun e : x = a => hn2.1 (by rw [← e]; exact hx)).mpr (h x (List.mem_cons_of_mem _ hx))
    have e := List.length_erase_of_mem hm
    have : 0 < m.length := List.length_pos_of_mem hm
    rw [List.length_cons]
    omega
section
variable {K : PySem.W.Frag} {wd : PySem.World} {n : Nat} {ρ ts : List SV} {g : List Cell}
theorem gd_take {E : XK} {i j : Nat} {tm : TE} {post : D → List Cell → Prop} (hi : ρ[i]? = some (.c j))
    (h : GoD K n tm ρ (.c j :: ts) g fun d g1 => ∃ (many : Int) (b : List D), d = .int many ∧ g1[j]? = some (some b) ∧ Bag b ∧ 1 ≤ many ∧ many < 2 ^ 200 ∧ ∀ (m : Int) b', 0 ≤ m → m < many → Bag b' → post (.int m) (g1.set j (some b'))) : GoD K n (tCall (spOf K R_law_take) [] E (tCons (tVar i) (tCons tm tNil))) ρ ts g post :=
  gd_bag hi (gs_cons (GoE.imp h fun s g1 ⟨d, e, many, b, e2, hb, bag, h1, h2, p⟩ => ⟨d, e, gs_nil ⟨b, hb, b, many, by rw [e2]; rfl, rfl, bag, h1, h2, fun m b' a c d => ⟨b', rfl, p m b' a c d⟩⟩⟩))
/-- .. of a written number, the one cell the bag -/
theorem gd_takeC {E : XK} {i : Nat} {b : List D} {many : Int} {post : D → List Cell → Prop} (hi : ρ[i]? = some (.c 0)) (hb : Bag b) (h1 : 1 ≤ many ∧ many < 2 ^ 200) (p : ∀ (m : Int) b', 0 ≤ m → m < many → Bag b' → post (.int m) [some b']) : GoD K n (tCall (spOf K R_law_take) [] E (tCons (tVar i) (tCons (tC (.int many)) tNil))) ρ ts [some b] post :=
  gd_take hi (gd_int ⟨many, b, rfl, rfl, hb, h1.1, h1.2, p⟩)
def t_law_of (K : PySem.W.Frag) (wd : PySem.World) : TS := (tRet (tOp (rIx K) (tVar 1) (tCall (spOf K R_law_take) [] E0 (tCons (tVar 0) (tCons (tCB (rLenA K) (tCons (tVar 1) tNil)) tNil)))))
theorem go_law_of (ss : List SV) (g : List Cell) (post : D → List Cell → Prop) (h : R_law_of ss g post) : GoS K g.length (t_law_of K wd) (ss ++ List.replicate (2 - ss.length) .no) g (KF g.length post) := by
  obtain ⟨b, d, es, rfl, rfl, hb, hd, h0, hl, p⟩ := h
  have hpos : 0 < es.length := List.length_pos_iff.mpr h0
  unfold t_law_of
  refine gs_ret (gd_op (gd_var rfl (gd_take rfl ?_)))
  have fin : ∀ (m : Int) b', 0 ≤ m → m < es.length → Bag b' → OpD K (un2 (rIx K)) [d, .int m] fun d => (KF [some b].length post).rt (.d d) [some b'] := fun m b' h1 h2 hb' => by
    have hm : m.toNat < es.length := by omega
    have e : atI es m = some es[m.toNat] := by
      have := atI_nat (List.getElem?_eq_getElem hm)
      rwa [show ((m.toNat : Nat) : Int) = m by omega] at this
    rcases hd with rfl | rfl
    · exact opd_ixL e ⟨_, rfl, p _ b' (List.getElem_mem hm) hb'⟩
    · exact opd_ixT e ⟨_, rfl, p _ b' (List.getElem_mem hm) hb'⟩
  have len : ∀ post : D → List Cell → Prop, post (.int es.length) [some b] → GoD K [some b].length (tCB (rLenA K) (tCons (tVar 1) tNil)) ([.c 0, .d d] ++ List.replicate (2 - [SV.c 0, .d d].length) .no) [.c 0, .d d] [some b] post := fun post q => by
    refine gd_cb (gs_cons (gd_var rfl (gs_nil ?_)))
    rcases hd with rfl | rfl
    · exact opd_lenL q
    · exact opd_lenT q
  exact len _ ⟨_, b, rfl, rfl, hb, by omega, by omega, fun m b' h1 h2 hb' => fin m b' h1 h2 hb'⟩
def R_law_house : RSpec := fun ss g post => ∃ b, ss = [.c 0] ∧ g = [some b] ∧ Bag b ∧ ∀ h b', GoodH h → Bag b' → post (encH h) [some b']
def t_law_house (K : PySem.W.Frag) (wd : PySem.World) : TS := (tSeq (tAsg (tCB (rSortedA K wd) (tCons (tCB (rSetOf K wd) (tCons (tLc (iRng1 (tCons (tCall (spOf K R_law_take) [] E0 (tCons (tVar 0) (tCons (tC (.int 6)) tNil))) tNil)) (gName 2) tYes (tCall (spOf K R_law_of) [] E0 (tCons (tVar 0) (tCons (tLst (tCons (tC (.str "ann")) (tCons (tC (.str "bo")) (tCons (tC (.str "cy")) (tCons (tC (.str "dee")) (tCons (tC (.str "eli")) tNil)))))) tNil))) [2]) tNil)) tNil)) (gName 1)) (tRet (tTup (tCons (tOp (rAddA K) (tC (.int 1)) (tCall (spOf K R_law_take) [] E0 (tCons (tVar 0) (tCons (tC (.int 4)) tNil)))) (tCons (tCB (rTupleA K) (tCons (tVar 1) tNil)) tNil)))))
theorem go_law_house (ss : List SV) (g : List Cell) (post : D → List Cell → Prop) (h : R_law_house ss g post) : GoS K g.length (t_law_house K wd) (ss ++ List.replicate (3 - ss.length) .no) g (KF g.length post) := by
  obtain ⟨b, rfl, rfl, hb, p⟩ := h
  unfold t_law_house
  refine gs_seq (gs_asgD (gd_sortset (gd_lc mg_name (ij_name (by simp)) (gi_rng1 (gs_cons (gd_takeC rfl hb (by decide) fun m b' h1 h2 hb' => gs_nil ⟨m, rfl, by omega, by omega, ?_⟩))))))
  refine ⟨by rw [rngD_len]; omega, fun i acc g => ∃ xs b, g = [some b] ∧ Bag b ∧ acc = xs.map PyData.str ∧ xs.length ≤ i ∧ ∀ x ∈ xs, x ∈ five, ⟨[], b', rfl, hb', rfl, Nat.le_refl _, fun _ z => nomatch z⟩, fun i d acc g2 hi ⟨xs, b2, e1, hb2, e2, hl, hm⟩ => ?_, fun acc g2 ⟨xs, b2, e1, hb2, e2, hl, hm⟩ => ?_⟩
  · subst e1 e2
    refine gg_name (gt_yes ⟨fun _ => ?_, fun z => nomatch z⟩)
    refine gd_bag rfl ?_
    (repeat (walk_at "g"))
    refine ⟨by decide, ?_⟩
    (repeat (walk_at "g"))
    refine ⟨b2, _, five.map PyData.str, rfl, rfl, hb2, .inl rfl, by decide, by decide, fun e b3 he hb3 => ⟨b3, rfl, rfl, ?_⟩⟩
    obtain ⟨x, hx, rfl⟩ := List.mem_map.mp he
    refine ⟨xs ++ [x], b3, rfl, hb3, by rw [List.map_append]; rfl, by rw [List.length_append]; show xs.length + 1 ≤ i + 1; omega, fun y hy => ?_⟩
    rcases List.mem_append.mp hy with hy | hy
    · exact hm y hy
    · rw [List.mem_singleton] at hy; rw [hy]; exact hx
  · subst e1 e2
    rw [rngD_len] at hl
    refine ⟨xs.map Sum.inr, by rw [kD_strs], by rw [List.length_map]; omega, .inr fun k hk => ?_, fun ks' ks0 hk nd hm0 => ?_⟩
    · obtain ⟨x, _, rfl⟩ := List.mem_map.mp hk
      exact ⟨x, rfl⟩
    · have mem : ∀ k ∈ ks', k ∈ xs.map (Sum.inr : Str → Key) := fun k hk' => (hm0 k).mp ((List.mergeSort_perm _ _).mem_iff.mp (by rw [← hk]; exact hk'))
      obtain ⟨ys, ey⟩ := strs_of_keys (ks := ks') fun k hk' => by
        obtain ⟨x, _, rfl⟩ := List.mem_map.mp (mem k hk')
        exact ⟨x, rfl⟩
      have up := up_of_sort hk nd
      rw [ey] at up mem ⊢
      have h5 : ∀ y ∈ ys, y ∈ five := fun y hy => by
        obtain ⟨x, hx, e⟩ := List.mem_map.mp (mem _ (List.mem_map.mpr ⟨y, hy, rfl⟩))
        cases e
        exact hm _ hx
      rw [kD_strs]
      refine gs_ret (gd_tup (gs_cons (gd_op (gd_int (gd_takeC (b := b2) rfl hb2 (by decide) fun r b3 r0 r4 hb3 => ?_)))))
      (repeat (walk_at "g"))
      refine ⟨by show 2 ≤ 100000; decide, ?_⟩
      refine ⟨_, rfl, ?_⟩
      have nd : ys.Nodup := List.Pairwise.of_map (Sum.inr : Str → Key) (fun a b hne e => hne (congrArg _ e)) up.1
      exact p ⟨1 + r, ys⟩ b3 ⟨by show 1 ≤ 1 + r; omega, by show 1 + r ≤ 4; omega, h5, up, nodup_sub_len nd h5⟩ hb3
end
end Go
/-! exceptions of own classes as values: made by places and by names, their kinds, their fields -/
namespace ExcA
open PySem PySem.Spec
/-! ### a class that comes from ValueError, called with any arguments -/
structure XP where
  nm : Str
  qn : Str
  ns : Addr
  bs : List Value
  bm : List Value
  sn : List Str
  sub : List Value
  ab : Bool
  col : Option Bool
  dd : Option Addr
  sl : Fin 5 → Option Value
abbrev XP.obj (p : XP) (C : Addr) : Obj := excClassObj p.nm p.qn C p.ns p.bs p.bm true p.sn p.sub p.ab p.col p.dd (p.sl 0) (p.sl 1) (p.sl 2) (p.sl 3) (p.sl 4) "ValueError.__new__"
structure XCl (h : Heap) (p : XP) (C : Addr) : Prop where
  here : h.get? C = some (p.obj C)
  refs : HandSPX.refsVE p.bm = true
theorem XCl.keeps {h h' : Heap} {p : XP} {C : Addr} (z : XCl h p C) (k : ∀ b o, h.get? b = some o → h'.get? b = some o) : XCl h' p C := ⟨k _ _ z.here, z.refs⟩
theorem XCl.kind {h : Heap} {p : XP} {C : Addr} (z : XCl h p C) (T : String) (b : Bool) (e : [Value.type "ValueError", .type "Exception", .type "BaseException", .type "object"].contains (.type T) = b) : (Value.ref C :: p.bm).contains (.type T) = b := by
  rw [List.contains_cons, HandSPX.refsVE_contains T p.bm z.refs, e]
  rfl
theorem XCl.own {h : Heap} {p : XP} {C : Addr} (_ : XCl h p C) : (Value.ref C :: p.bm).contains (.ref C) = true := by
  rw [List.contains_cons, beq_self_eq_true, Bool.true_or]
abbrev V0 := F.excBase_ValueError
/-- what stands in the heap when the object is made and not yet set up -/
abbrev born (h : Heap) (C : Addr) (us : List Value) : Heap := (h.push (W.kdv_tup us)).push (HandSPX.excO C h.objs.size)
theorem born_keeps {h : Heap} {C : Addr} {us : List Value} (b : Addr) (o : Obj) (e : h.get? b = some o) : (born h C us).get? b = some o := Heap.get?_push_of_some _ (Heap.get?_push_of_some _ e)
theorem born_at {h : Heap} {C : Addr} {us : List Value} : (born h C us).get? (h.objs.size + 1) = some (HandSPX.excO C h.objs.size) := by heap_get
section
variable {prog : Program} {w : World} {A : Around} {E : Value → Shared → Prop} {R : Result → Shared → Prop} {s : Shared} {p : XP} {C fI : Addr} {us : List Value} {kw : List (Str × Value)}
theorem ask_new {M : Model} {Q : Unit → Shared → Prop} (z : XCl s.heap p C) (q : Q () s) : wpAny M A (checkBuiltinCall "ValueError.__new__" ⟨.ref C :: us, kw⟩) Q E s := by
  obtain ⟨h, g, d, t, os⟩ := s
  have y := z.kind "ValueError" true rfl
  have star := V0.noStar
  simp only [checkBuiltinCall, V0.newKind, V0.newSplit, V0.newRow]
  repeat (any_goals (first | exact q | refine wpAny_loadPart_at z.here ?_ | (refine wpAny_isSubtype_exc z.here ?_; rw [y]) | refine wpAny_staticBase_exc z.here ?_ | refine wpAny_madeBy_exc z.here ?_ | simp only [bne_self_eq_false, Bool.false_eq_true, if_false] | wp_step))
theorem ask_call {M : Model} {Q : Unit → Shared → Prop} (z : XCl s.heap p C) (q : Q () s) : wpAny M A (checkBuiltinCall "type.__call__" ⟨.ref C :: us, kw⟩) Q E s := by
  obtain ⟨h, g, d, t, os⟩ := s
  have sub := tc_sub
  have ty : Shared.TypeIs ⟨h, g, d, t, os⟩ (.ref C) "type" := ⟨_, z.here, rfl⟩
  have y := z.own
  simp only [checkBuiltinCall, tc_kind, tc_split]
  repeat (any_goals (first
    | assumption
    | with_reducible refine wpAny_loadPart_at z.here ?_
    | (with_reducible refine wpAny_isSubtype_exc z.here ?_; rw [y])
    | with_reducible refine wpAny_madeBy_exc z.here ?_
    | with_reducible refine wpAny_staticBase_exc z.here ?_
    | with_reducible refine wpAny_madeHere_exc (ExcBaseFacts.canon V0) z.here ?_
    | with_reducible refine wpAny_onRaise ?_
    | with_reducible refine wpAny_map ?_
    | wp_step))
theorem run_new (z : XCl s.heap p C) (hl : us.length ≤ sizeLine) (q : R (.ok (.ret (.ref (s.heap.objs.size + 1)))) { s with heap := born s.heap C us }) :
    codeAny (model prog w) A (.builtin "ValueError.__new__" ⟨.ref C :: us, kw⟩) R s := by
  obtain ⟨h, g, d, t, os⟩ := s
  have fin := V0.ends
  have at0 : h.get? C = some (p.obj C) := z.here
  have y := z.kind "ValueError" true rfl
  have n1 := z.kind "AttributeError" false (by decide)
  have n2 := z.kind "NameError" false (by decide)
  refine codeAny_builtinAt V0.entry (wpAt_bind (wpAt_bind (wpAt_stack fun _ _ => wpAt_of_wpAny ?_)))
  wp_walk
  refine wpAt_of_wpAny ?_
  rw [V0.owner]
  repeat (first | with_reducible refine wpAny_madeHere_exc V0.canon z.here ?_ | with_reducible refine wpAny_loadPart_at z.here ?_ | (with_reducible refine wpAny_isSubtype_exc z.here ?_; first | rw [y] | rw [n1] | rw [n2]) | wp_step)
  show R _ _
  rw [Heap.size_push]
  exact q
theorem run_type (z : XCl s.heap p C) (hl : us.length ≤ sizeLine) (lk : W.Looks (model prog w) s.heap (typeLookup (.ref C) "__init__") (some (.ref fI))) (bd : ∀ o, W.Looks (model prog w) s.heap (bindSpecial (.ref fI) o) (.ref fI, [o])) {Q : Fin → Shared → Prop}
    (q : codeAny (model prog w) A (.call (.ref fI) ⟨.ref (s.heap.objs.size + 1) :: us, kw⟩) (W.InitBack (s.heap.objs.size + 1) fun r s' => match r with | .ok fl => Q (.done fl) s' | .error e => E e s') { s with heap := born s.heap C us }) :
    wpAny (model prog w) A (Builtin.«type.__call__» ⟨.ref C :: us, kw⟩) Q E s := by
  obtain ⟨h, g, d, t, os⟩ := s
  have at0 : h.get? C = some (p.obj C) := z.here
  have z1 : XCl (born h C us) p C := z.keeps born_keeps
  have y := z1.own
  repeat (first | with_reducible refine wpAny_loadPart_at at0 ?_ | with_reducible refine wpAny_madeBy_exc at0 ?_ | wp_step)
  refine codeAny_call_builtin_code (Code.quiet_builtin _ V0.quiet) (ask_new z (run_new z hl ?_))
  show wpAny _ _ _ _ _ _
  have obj := born_at (h := h) (C := C) (us := us)
  unfold isInstance
  repeat (first | with_reducible refine wpAny_loadPart_at obj ?_ | (with_reducible refine wpAny_isSubtype_exc z1.here ?_; rw [y]) | wp_step)
  refine (lk.keeps born_keeps).at (wpAny_holding (wpAny_bind (((bd _).keeps born_keeps).at (wpAny_bind (wpAny_call (codeAny_mono q fun r s' e => ?_))))))
  cases r with
  | error _ => exact e
  | ok fl =>
    cases fl with
    | ret v =>
      obtain ⟨ev, e⟩ := e
      subst ev
      first | exact wpAny_pure (wpAny_pure e) | (wp_walk; exact e)
    | next => exact e.elim
    | brk => exact e.elim
    | cont => exact e.elim
theorem run_call (z : XCl s.heap p C) (hl : us.length ≤ sizeLine) (lk : W.Looks (model prog w) s.heap (typeLookup (.ref C) "__init__") (some (.ref fI))) (bd : ∀ o, W.Looks (model prog w) s.heap (bindSpecial (.ref fI) o) (.ref fI, [o]))
    (q : codeAny (model prog w) (A.under (.builtin "type.__call__" ⟨.ref C :: us, kw⟩)) (.call (.ref fI) ⟨.ref (s.heap.objs.size + 1) :: us, kw⟩) (W.InitBack (s.heap.objs.size + 1) R) { s with heap := born s.heap C us }) :
    codeAny (model prog w) A (.call (.ref C) ⟨us, kw⟩) R s := by
  obtain ⟨h, g, d, t, os⟩ := s
  have at0 : h.get? C = some (p.obj C) := z.here
  have l1 := tc_lookup
  have l2 := tc_bind (.ref C)
  have ty : Shared.TypeIs ⟨h, g, d, t, os⟩ (.ref C) "type" := ⟨_, at0, rfl⟩
  refine codeAny_of_tree (show wpAny _ _ (callAny (.ref C) _) _ _ _ from ?_)
  repeat (any_goals (first | with_reducible refine wpAny_loadPart_at at0 ?_ | assumption | wp_step))
  refine ⟨rfl, codeAny_call_builtin_at (Code.quiet_builtin _ (by decide +kernel)) entry_typeCall (ask_call z (run_type z hl lk bd (codeAny_mono q fun r s' e => ?_)))⟩
  cases r with
  | error _ => exact e
  | ok fl => cases fl <;> exact e
end
end ExcA
namespace ExcA
open PySem PySem.Spec PyProof.Rows L2
/-! ### kinds and fields -/
/-- an exception of the class at C -/
def XAt (H : Hp) (C a : Addr) : Prop := H a = some (ExO (.ref C) a) ∨ ∃ (dx : Addr) (fs : List (Str × V)), H a = some (exo a C (some dx)) ∧ H dx = some (exd dx fs)
theorem inst_f {P : Program} {w : World} {H : Hp} {h : Heap} {C a dx : Addr} {fs : List (Str × V)} (hok : HOk P w H h) (x : H a = some (exo a C (some dx))) (xd : H dx = some (exd dx fs)) :
    ∃ (ox od : Obj) (m : Str → Option Value), PySem.W.InstAt h a ox C (some od) ∧ (∀ f, RelO (fs.lookup f) (m f)) ∧ ∀ f, PySem.W.lookIn f od = some (m f) := by
  obtain ⟨_, e1⟩ := exo_at hok x
  obtain ⟨m, ns, rel⟩ := exd_at hok xd
  obtain ⟨od, e2, look⟩ := lookIn_ns ns
  exact ⟨_, od, m, ⟨e1, rfl, rfl, e2⟩, rel, look⟩
theorem inst_of {P : Program} {w : World} {H : Hp} {h : Heap} {C a : Addr} (hok : HOk P w H h) : XAt H C a → ∃ ox od, PySem.W.InstAt h a ox C od
  | .inr ⟨_, _, x, xd⟩ =>
    let ⟨ox, od, _, i, _⟩ := inst_f hok x xd
    ⟨ox, some od, i⟩
  | .inl x => by
    obtain ⟨⟨oe, vs, e1, ⟨z1, z2⟩, zd, _⟩, _⟩ := hok a _ x
    refine ⟨oe, none, e1, z1, ?_, by rw [z2]; trivial⟩
    unfold PySem.W.notCls
    rw [zd] <;> rfl
/-- isinstance(e, c) -/
def rIsX (K : PySem.W.Frag) : List V → Hp → VK → Prop := fun xs H Q => ∃ (a C : Addr) (c : V) (cv : Value) (b : Bool), xs = [.ref a, c] ∧ L2.ExcC K C ∧ XAt H C a ∧ (∀ u, RelV c u → u = cv) ∧ PySem.W.kitOne K (.ref C) cv = some b ∧ Q (.bl b) H
theorem call_isX {X : Cx} : CallR X (.builtin "isinstance") (rIsX X.K) := by
  rintro pins s σ H xs us Q I r ⟨a, C, c, cv, b, rfl, T, x, hcv, e, q⟩
  match us, r with
  | [_, _], .cons rfl (.cons rc .nil) =>
    cases hcv _ rc
    obtain ⟨ox, od, i⟩ := inst_of I.hok x
    have known : (PySem.W.clsIn X.K C).isSome = true := by
      obtain ⟨_, e, _⟩ := PySem.W.any_some T.hd
      rw [e] <;> rfl
    exact PySem.W.kia_one (PySem.W.kitx_exc (od := od) known T.hg T.hk T.hs T.ha T.hn T.ht T.hm) I.kIn i e nofun fun _ => ⟨.bl b, H, I.tok _, rfl, q⟩
section
variable {X : Cx} {x n : Str} {C0 C fI : Addr} {e : Expr} {es : List Expr} {te : TE} {ta tk : TA} {p p1 p2 pos : Pos} {kws : List Keyword}
/-- e.f -/
def tXfV (K : PySem.W.Frag) (f : Str) (te : TE) : TE := fun σ H Q => te σ H fun x H1 => ∃ (a C dd : Addr) (fs : List (Str × V)) (v : V), x = .ref a ∧ XfC K C ∧ PySem.W.findIn K (.ref C) f = some none ∧ H1 a = some (exo a C (some dd)) ∧ H1 dd = some (exd dd fs) ∧ fs.lookup f = some v ∧ Q v H1
theorem pe_xfV (he : PE X e te) (hb : attributeBase e n X.env (eval e X.env) = eval e X.env := by rfl) : PE X (.Attribute e n pos) (tXfV X.K n te) where
  run pins s σ H Q I h := attr_of hb (thn (he.run pins s σ H _ I h) fun u s1 ⟨_, H1, J, ru, a, C, dd, fs, v, ex, T, no, ea, ed, l, q⟩ => by
    subst ex
    cases ru
    obtain ⟨ox, od, m, i, rel, look⟩ := inst_f J.hok ea ed
    have rv := rel n
    rw [l] at rv
    obtain ⟨w, ew, rw1⟩ := RelO.some_of rv
    have own : PySem.W.findObj X.K C (some od) n = some (.value w) := PySem.W.findObj_own T.hdC no rfl (by rw [look, ew])
    exact HandSPX.exc_get J.kIn i T.ga T.gg T.exC own (handed_of rw1) ⟨v, H1, J.tok _, rw1, q⟩)
/-! ### Base.__init__(self, ..), Base an own class without own __init__ -/
structure BaseI (K : PySem.W.Frag) (C0 : Addr) : Prop where
  sp : PySem.W.specialIn K (.ref C0) "__getattribute__" = some (some (.builtin "type.__getattribute__"))
  rd : PySem.W.readsIn K C0 (.type "type") = true
  fd : PySem.W.findCls K (.ref C0) (.type "type") "__init__" = some (.val (.builtin "ValueError.__init__"))
theorem pe_ownI {pl : Sem Bool} (hg : Gl X x) (hm : X.mg x = some (.ref C0)) (B : BaseI X.K C0) (ha : PA X (e :: es) ta)
    (hc : eval (.Call (.Attribute (.Name x p1) "__init__" p2) (e :: es) [] pos) X.env = (do
      let o ← eval (.Name x p1) X.env
      standAt p2.atName
      let (m, us) ← holding [o] (getMethod o "__init__" pl)
      callWith pos m us (backTo pos (starEach (e :: es) X.env)) (backToKw pos (keywordEach [] X.env))) := by rfl)
    (he : starEach (e :: es) X.env = (false, eval e X.env) :: starEach es X.env := by rfl) (hpl : (backTo pos (starEach es X.env)).any (·.1) = false := by rfl) (hdb : (x == ("__debug__" : Str)) = false := by decide) :
    PE X (.Call (.Attribute (.Name x p1) "__init__" p2) (e :: es) [] pos) (tVeI X.K ta) where
  run pins s σ H Q I h := by
    refine PySem.W.methodCall_KW (ld_glob I hg hm (PySem.W.method_cls I.kIn B.sp (PySem.W.cls_value I.kIn B.rd B.fd rfl ?_)) hdb) hc
    refine (PyProof.Rows.callWith_method1 (thn (ha.run pos pins _ σ H _ (I.tok _) h) ?_) he hpl : wpAny _ _ (callWith pos (.builtin "ValueError.__init__") [] _ []) _ _ _)
    rintro us s1 ⟨_, H1, J, r, a, C, ws, rfl, few, T, ea, q⟩
    match us, r with
    | _ :: ur, .cons rfl rs => exact oinit_ok T J ea (by rw [← rs.length, sizeLine_eq]; omega) fun s2 J2 => ⟨.non, H1, J2, rfl, q⟩
/-! ### C(..) as a value, C with an own __init__ -/
structure IniC (K : PySem.W.Frag) (C fI : Addr) : Prop where
  T : OexC K C
  iC : PySem.W.findIn K (.ref C) "__init__" = some (some (.ref fI))
  tI : PySem.W.typeIn K (.ref fI) = some (.type "function")
theorem IniC.cl {K : PySem.W.Frag} {C fI : Addr} (T : IniC K C fI) : ∃ p : XP, K.lookup C = some (p.obj C) ∧ PySem.HandSPX.refsVE p.bm = true := by
  obtain ⟨nm, qn, ns, bs, bm, sn, sub, ab, col, dd, a0, a1, a2, a3, a4, l, r⟩ := T.T.cls
  exact ⟨⟨nm, qn, ns, bs, bm, sn, sub, ab, col, dd, fun i => [a0, a1, a2, a3, a4].getD i.val none⟩, l, r⟩
def tMkX (C : Addr) (sp : Sp) (m : Nat) (dvs : List V) (ta : TA) : TE := fun σ H Q => ta σ H fun vs H1 => vs.length = m ∧ m ≤ 1000 ∧ ∀ a, H1 a = none → sp (.ref a :: (vs ++ dvs)) (upd H1 a (exo a C none)) (fun v H2 => v = .non ∧ Q (.ref a) H2) (fun _ _ _ => False)
theorem mk_core {CX : CXT} {k : Nat} {fd : FuncData} {ps : List Str} {sp : Sp} {pins : List (Addr × Obj)} {σ : L2.St} {H : Hp} {s : Shared} {Q : VK} {us ws : List Value} {vs : List V} {kw : List (Str × Value)} (T : IniC X.K C fI)
    (F1 : FnOk X.prog X.w X.K X.mg X.base CX k fI fd ps sp) (hr : Room (k + 1) X.A) (hx : Passes CX X (fun _ _ _ => False)) (I : Inv X pins σ H s) (hus : us.length ≤ sizeLine)
    (hb : ∀ (a : Addr) (s : Shared), X.K.In s.heap → BindsTo s fd ⟨.ref a :: us, kw⟩ (ps.zip (.ref a :: ws))) (r : Vals vs ws)
    (q : ∀ a, H a = none → sp (.ref a :: vs) (upd H a (exo a C none)) (fun v H2 => v = .non ∧ Q (.ref a) H2) (fun _ _ _ => False)) :
    wpAny (model X.prog X.w) X.A (call (.ref C) us kw) (EP X pins σ Q) X.xe s := by
  obtain ⟨xp, l, rf⟩ := T.cl
  have up : s.heap.objs.size ≤ s.heap.objs.size + 1 := Nat.le_add_right _ 1
  have J : Inv X pins σ (upd H (s.heap.objs.size + 1) (exo (s.heap.objs.size + 1) C none)) { s with heap := born s.heap C us } := I.laid (t' := s.toks) born_keeps up (exo_ok born_at)
  have run := F1.run _ X.stack _ _ ⟨.ref (s.heap.objs.size + 1) :: us, kw⟩ (.ref (s.heap.objs.size + 1) :: ws) (.ref (s.heap.objs.size + 1) :: vs) _ (fun _ _ _ => False) (hr.make C us kw) (J.env0.make C us kw) (hb _ _ J.kIn) (.cons rfl r) (q _ (I.hok.fresh up))
  refine wpAny_call (run_call ⟨I.kIn _ _ l, rf⟩ hus (PySem.W.looks_findIn I.kIn T.iC) (fun o => PySem.W.bind_fn I.kIn o T.tI) (codeAny_mono run fun rr s' w => ?_))
  match rr, w with
  | .error _, w => exact hx pins σ _ _ _ s' J w
  | .ok (.ret u), w =>
    obtain ⟨_, H2, J2, ru, rfl, q2⟩ := J.after w
    exact ⟨ru, .ref _, H2, J2, rfl, q2⟩
theorem pe_mkX {CX : CXT} {k m : Nat} {fd : FuncData} {ps : List Str} {sp : Sp} (T : IniC X.K C fI) (F1 : FnOk X.prog X.w X.K X.mg X.base CX k fI fd ps sp) (hr : Room (k + 1) X.A) (hb : Binds X.K fd ps []) (hx : Passes CX X (fun _ _ _ => False)) (hg : Gl X x) (hm : X.mg x = some (.ref C)) (ha : PA X (e :: es) ta)
    (hpm : ps.length = m + 1 := by rfl) (hdb : (x == ("__debug__" : Str)) = false := by decide) (he : starEach (e :: es) X.env = (false, eval e X.env) :: starEach es X.env := by rfl) (hpl : (backTo pos (starEach es X.env)).any (·.1) = false := by rfl) :
    PE X (.Call (.Name x p) (e :: es) [] pos) (tMkX C sp m [] ta) where
  run pins s σ H Q I h := wpAny_Call_Name_kw (ld_glob I hg hm (PySem.W.callWith_K (h₀ := X.base) I.ok.mod.kin T.T.kC (thn (ha.run pos pins s σ H _ I h) fun us s1 ⟨vs, H1, J, r, hl, hz, q⟩ => ⟨J.kIn, by
    have lu : us.length = m := r.length.symm.trans hl
    refine mk_core (us := us) T F1 hr hx J (by rw [lu, sizeLine_eq]; omega) (fun a s ki => ?_) r (fun a ha => by simpa using q a ha)
    simpa using hb s (.ref a :: us) ki (by simp [lu, hpm])⟩) he hpl) hdb)
/-- how the names ks bind, ds the values that fill up -/
def KwM (K : PySem.W.Frag) (fd : FuncData) (ps ks : List Str) (ds : List Value) : Prop := ∀ (s : Shared) (a : Addr) (ws : List Value), K.In s.heap → ws.length = ks.length → BindsTo s fd ⟨[.ref a], ks.zip ws⟩ (ps.zip (.ref a :: (ws ++ ds)))
theorem pe_mkXK {CX : CXT} {k m : Nat} {fd : FuncData} {ps ks : List Str} {sp : Sp} {ds : List Value} {dvs : List V} (T : IniC X.K C fI) (F1 : FnOk X.prog X.w X.K X.mg X.base CX k fI fd ps sp) (hr : Room (k + 1) X.A) (hb : KwM X.K fd ps ks ds) (hd : Vals dvs ds) (hx : Passes CX X (fun _ _ _ => False)) (hg : Gl X x) (hm : X.mg x = some (.ref C))
    (hkw : PK X kws tk) (hall : (backToKw pos (keywordEach kws X.env)).all (·.1.isSome) = true := by rfl) (hks : (backToKw pos (keywordEach kws X.env)).filterMap (·.1) = ks := by rfl)
    (hdb : (x == ("__debug__" : Str)) = false := by decide) (hpl : ((backTo pos (starEach [] X.env)).any (·.1) || (backToKw pos (keywordEach kws X.env)).any (·.1.isNone)) = false := by rfl) (hml : ks.length = m := by rfl) :
    PE X (.Call (.Name x p) [] kws pos) (tMkX C sp m dvs tk) where
  run pins s σ H Q I h := wpAny_Call_Name_kw (ld_glob I hg hm (PySem.W.callWith_KW0 (h₀ := X.base) I.ok.mod.kin T.T.kC hall (thn (hkw.run pos pins s σ H _ I h) fun ws s1 ⟨vs, H1, J, r, hl, hz, q⟩ => ⟨J.kIn, by
    rw [hks]
    exact mk_core T F1 hr hx J (Nat.zero_le _) (fun a s ki => hb s a ws ki (by rw [← r.length, hl, hml])) (r.append hd) q⟩) hpl) hdb)
end
/-! ### how the arguments of an own __init__ bind -/
theorem kwm_fun {K : PySem.W.Frag} {x qual : Str} {st : Stmt} {f : Addr} {fd : FuncData} {ps ks : List Str} (F : Fun K x qual st f fd)
    (h : ∀ (kV doc pm : Value) (an : Option Addr) (cdv ct : Value) (a : Addr) (ws : List Value), ws.length = ks.length → bindArgs (PySem.W.fnOf x qual (defArgs st) (defBody st) (defScope st) .none kV doc pm an cdv ct) ⟨[.ref a], ks.zip ws⟩ = pure (ps.zip (.ref a :: (ws ++ [])))) : KwM K fd ps ks [] := by
  obtain ⟨_, _, kV, dc, pm, an, cd, ct, _, rfl, _⟩ := F.ex
  exact fun s a ws _ hl => .of_eq (h kV dc pm an cd ct a ws hl)
section
variable {K : PySem.W.Frag} {x qual : Str} {params : Arguments} {body : List Stmt} {scope : Scope} {f : Addr} {fd : FuncData} {ps : List Str}
theorem kwm_dfl {ks : List Str} (ds : List Value) (F : FunD K x qual params body scope [.non] [] f fd)
    (h : ∀ (T : Addr) (kV doc pm : Value) (an : Option Addr) (cdv ct : Value) (a : Addr) (ws : List Value), ws.length = ks.length → ∃ k, bindArgs (PySem.W.fnOf x qual params body scope (.ref T) kV doc pm an cdv ct) ⟨[.ref a], ks.zip ws⟩ = seqItems? (.ref T) >>= k ∧ k (some #[.none]) = pure (ps.zip (.ref a :: (ws ++ ds)))) : KwM K fd ps ks ds := by
  obtain ⟨_, _, dV, kV, dc, pm, an, cd, ct, _, rfl, _, _, ⟨no, _⟩ | ⟨_, T, o, its, m, rfl, l, od, rl⟩, _⟩ := F.ex
  · cases no
  · match its, rl with
    | [_], .cons rfl .nil =>
      intro s a ws ki hl
      obtain ⟨k, b1, b2⟩ := h T kV dc pm an cd ct a ws hl
      exact BindsTo.of_looks fun M => by rw [b1]; exact looks_items ki l od (.of_pure b2)
theorem b_dfl (F : FunD K x qual params body scope [.non] [] f fd) (hps : ps.length = 2)
    (h : ∀ (T : Addr) (kV doc pm : Value) (an : Option Addr) (cdv ct : Value) (us its : List Value), us.length = 2 → its.length = 1 → ∃ k, bindArgs (PySem.W.fnOf x qual params body scope (.ref T) kV doc pm an cdv ct) ⟨us, []⟩ = seqItems? (.ref T) >>= k ∧ k (some its.toArray) = pure (ps.zip (us ++ its.drop 1))) : Binds K fd ps [] := by
  obtain ⟨ds, r, b⟩ := F.binds1 (ps := ps) 2 1 (by simp) (by rw [hps]; rfl) h
  cases r
  exact b
theorem fun_dfl {kV doc pm cdv ct oc oc' : Value} {od an od' : Option Addr} {osl osl' : Array (Option Value)} {T : Addr} {n : Nat} (l : K.lookup f = some ⟨oc, od, .func (PySem.W.fnOf x qual params body scope (.ref T) kV doc pm an cdv ct), osl⟩) (c : PySem.W.codeIn K cdv qual = true) (k : PySem.W.keepIn K (.ref f) = true)
    (t : K.lookup T = some ⟨oc', od', .seq #[.none] n, osl'⟩) : FunD K x qual params body scope [.non] [] f (PySem.W.fnOf x qual params body scope (.ref T) kV doc pm an cdv ct) :=
  ⟨⟨oc, od, _, kV, doc, pm, an, cdv, ct, osl, rfl, l, c, .inr ⟨by simp, T, _, [.none], n, rfl, t, rfl, .cons rfl .nil⟩, .inl rfl⟩, k⟩
end
/-- of which form an own class with an own __init__ is -/
theorem oex_mk {K : PySem.W.Frag} {C N : Addr} {nm q : Str} {bs bm : List Value} {sn : List Str} {sub : List Value} {ab : Bool} {col : Option Bool} {dd : Option Addr} {k0 k1 k2 k3 k5 : Option Value} (l : K.lookup C = some (excClassObj nm q C N bs bm true sn sub ab col dd k0 k1 k2 k3 k5 "ValueError.__new__")) (r : PySem.HandSPX.refsVE bm = true)
    (s : PySem.W.findIn K (.ref C) "__setattr__" = some (some (.builtin "object.__setattr__"))) (e : PySem.W.subIn K (.ref C) (.type "BaseException") = some true) (t : PySem.W.typeIn K (.ref C) = some (.type "type")) (k : PySem.W.keepIn K (.ref C) = true) : OexC K C := ⟨⟨_, _, _, _, _, _, _, _, _, _, _, _, _, _, _, l, r⟩, s, e, t, k⟩
end ExcA
/-! exceptions as values over the layer -/
namespace Go
open PySem PySem.Spec PyProof.Rows L2 SetMix ZipE ExcA
open Evl (Ex)
section
variable {X : Cx}
def rIsN0 : R2 := fun x y H Q => y = .non ∧ Q (.bl (decide (x = .non))) H
def rNotN0 : R2 := fun x y H Q => y = .non ∧ Q (.bl (!decide (x = .non))) H
theorem op_isN0 : OpR X (compareOp .Is) rIsN0 := op_isN
theorem op_notN0 : OpR X (compareOp .IsNot) rNotN0 := op_notN
def tNever : TS := fun _ _ _ => False
theorem ps_never {st : Stmt} : PS X st tNever := ⟨fun _ _ _ _ _ _ h => h.elim⟩
def rAddS : R2 := fun x y H Q => ∃ i j, x = .str i ∧ y = .str j ∧ i.length + j.length ≤ sizeLine ∧ Q (.str (i ++ j)) H
theorem op_addS : OpR X (binaryOp .Add) rAddS := op_add_str
theorem bt_ValueError : bootBuiltins "ValueError" = some (.type "ValueError") := boot_ValueError
/-- C(e), C without own __init__ -/
def tExc1 (C : Addr) (ta : TE) : TE := fun σ H Q => ta σ H fun _ H1 => ∀ a, H1 a = none → Q (.ref a) (upd H1 a (ExO (.ref C) a))
theorem pe_exc {C : Addr} {bmB : List Value} {B newId initId : String} {x : Str} {e : Expr} {ta : TE} {p pos : Pos} (F : ExcBaseFacts B newId initId bmB) (q : PySem.W.excIn X.K C bmB newId = true) (gC : X.mg x = some (.ref C)) (kC : PySem.W.keepIn X.K (.ref C) = true) (hg : Gl X x)
    (he : PE X e ta) (hs : starEach [e] X.env = (false, eval e X.env) :: starEach [] X.env := by rfl) (hdb : (x == ("__debug__" : Str)) = false := by decide) : PE X (.Call (.Name x p) [e] [] pos) (tExc1 C ta) := pe_exc1 F q gC kC hg he hs hdb
end
def rJoinT (K : PySem.W.Frag) : V → List V → Hp → VK → Prop := fun x xs H Q => ∃ a p, ∃ ys : List Str, x = .str a ∧ xs = [.ref p] ∧ (SqL K H p (ys.map V.str) ∨ SqT K H p (ys.map V.str)) ∧ (ys.map (·.length)).sum + ys.length * a.length ≤ 16777216 ∧ Q (.str (Txt.join a ys)) H
section
variable {K : PySem.W.Frag} {n : Nat} {ρ ts : List SV} {g : List Cell} {I H : Hp}
theorem is_strs {I : Hp} : ∀ {xs : List V} {ys : List Str}, IsAll K I xs (ys.map PyData.str) → xs = ys.map V.str
  | _, [], .nil => rfl
  | _, y :: ys, .cons i t => by
    rw [is_strs t]
    cases is_str (show Is K I _ (.str y) from i)
    rfl
theorem gd_join {to te : TE} {post : D → List Cell → Prop} (h : GoD K n to ρ ts g fun d g1 => ∃ a, d = .str a ∧ GoD K n te ρ (.d d :: ts) g1 fun d2 g2 => ∃ ys : List Str, d2 = .list (ys.map PyData.str) ∧ (ys.map (·.length)).sum + ys.length * a.length ≤ 16777216 ∧ post (.str (Txt.join a ys)) g2) : GoD K n (tM1 (rJoinT K) to te) ρ ts g post := by
  intro I0 H0 bs σ vs H hn w Q q
  refine h I0 H0 bs σ vs H hn w _ fun v H1 s g1 ⟨I, ls, w1⟩ ⟨d, e, a, e2, p⟩ => ?_
  subst e e2
  have w1' := w1
  obtain ⟨_, r⟩ := w1.pop
  cases r with
  | d i =>
    cases is_str i
    refine ⟨⟨a, rfl⟩, p I0 H0 bs σ _ H1 hn ⟨I, ls, w1'⟩ _ fun y H2 s2 g2 ⟨I2, ls2, w2⟩ ⟨d2, e, ys, hd, hz, pp⟩ => ?_⟩
    subst e hd
    obtain ⟨w3, r2⟩ := w2.pop
    obtain ⟨w4, r1⟩ := w3.pop
    cases r2 with
    | d i2 =>
      obtain ⟨b, xs, rfl, hs, ha⟩ := is_list i2
      rw [is_strs ha] at hs
      exact ⟨a, b, ys, rfl, rfl, .inl (.inl (Evl.ex_rd w4.fr.ih hs)), hz, q _ H2 (.d (.str _)) g2 ⟨I2, ls2, w4.push (.d (.str _))⟩ ⟨_, rfl, pp⟩⟩
/-! ### what stands for an exception -/
theorem noKV {kvs : List (Key × V)} {k : D} {r : List (D × D)} (h : IsKV K I kvs ((PyData.none, k) :: r)) : False := by
  generalize hx : ((PyData.none, k) :: r) = l at h
  cases h with
  | nil => cases hx
  | @cons key v vs d ds i t =>
    cases key <;> simp [kD] at hx
theorem is_op {v : V} {k : D} (i : Is K I v (.dict [(.none, k)])) : Op I v k := by
  cases i with
  | dic _ b => exact (noKV b).elim
  | op h => exact h
theorem op_exc {v : V} {C : Addr} (h : Op I v (.int (C : Nat))) : ∃ a, v = .ref a ∧ I a = some (ExO (.ref C) a) := by
  generalize hx : PyData.int (C : Nat) = k at h
  cases h with
  | @exc a C' h =>
    have e : C = C' := by
      injection hx with e
      exact Int.ofNat.inj e
    subst e
    exact ⟨a, rfl, h⟩
  | exf => cases hx
theorem op_exf {v : V} {C : Addr} {f : Str} {d : D} (h : Op I v (.tuple [.int (C : Nat), .str f, d])) : ∃ a dx u, v = .ref a ∧ I a = some (exo a C (some dx)) ∧ I dx = some (exd dx [(f, u)]) ∧ Imm u d := by
  generalize hx : PyData.tuple [.int (C : Nat), .str f, d] = k at h
  cases h with
  | exc => cases hx
  | @exf a dx C' f' u d' h1 h2 i =>
    injection hx with e
    injection e with e1 e
    injection e with e2 e
    injection e with e3 _
    injection e1 with e1
    injection e2 with e2
    have e : C = C' := Int.ofNat.inj e1
    subst e e2 e3
    exact ⟨a, dx, u, rfl, h1, h2, i⟩
inductive XD (C : Addr) : D → Prop
  | exc : XD C (.dict [(.none, .int (C : Nat))])
  | exf (f : Str) (d : D) : XD C (.dict [(.none, .tuple [.int (C : Nat), .str f, d])])
theorem xd_at {C : Addr} {v : V} {d : D} (x : XD C d) (i : Is K I v d) (ex : Ex I H) : ∃ a, v = .ref a ∧ XAt H C a := by
  cases x with
  | exc =>
    obtain ⟨a, e, h⟩ := op_exc (is_op i)
    exact ⟨a, e, .inl (ex _ _ h)⟩
  | exf f d =>
    obtain ⟨a, dx, u, e, h1, h2, _⟩ := op_exf (is_op i)
    exact ⟨a, e, .inr ⟨dx, _, ex _ _ h1, ex _ _ h2⟩⟩
theorem imm_is {u : V} {d : D} (i : Imm u d) : Is K I u d := by
  cases i with
  | non => exact .non
  | int i => exact .int i
  | str x => exact .str x
def immD : D → Bool
  | .none => true
  | .int _ => true
  | .str _ => true
  | _ => false
theorem is_imm {v : V} {d : D} (i : Is K I v d) (h : immD d = true) : Imm v d := by
  cases i with
  | non => exact .non
  | int i => exact .int i
  | str x => exact .str x
  | bl _ => cases h
  | lst _ _ => cases h
  | tup _ _ => cases h
  | dic _ _ => cases h
  | op _ => cases h
theorem imm_eq {u v : V} {d : D} (i : Imm u d) (j : Imm v d) : u = v := by cases i <;> cases j <;> rfl
theorem imm_D {u : V} {d : D} (i : Imm u d) : immD d = true := by cases i <;> rfl
/-! ### rules -/
theorem gd_isX {te : TE} {c : V} {cv : Value} {post : D → List Cell → Prop} (hc : ∀ u, L2.RelV c u → u = cv) (h : GoD K n te ρ ts g fun d g1 => ∃ C b, XD C d ∧ L2.ExcC K C ∧ PySem.W.kitOne K (.ref C) cv = some b ∧ post (.bool b) g1) : GoD K n (tCB (rIsX K) (tCons te (tCons (tC c) tNil))) ρ ts g post := by
  intro I0 H0 bs σ vs H hn w Q q
  refine h I0 H0 bs σ vs H hn w _ fun v H1 s g1 ⟨I, ls, w1⟩ ⟨d, e, C, b, x, T, hk, p⟩ => ?_
  subst e
  obtain ⟨w2, r⟩ := w1.pop
  cases r with
  | d i =>
    obtain ⟨a, rfl, xa⟩ := xd_at x i w2.fr.ih
    exact ⟨a, C, c, cv, b, rfl, T, xa, hc, hk, q _ H1 _ g1 ⟨I, ls, w2.push (.d (.bl _))⟩ ⟨_, rfl, p⟩⟩
theorem gd_exc {C : Addr} {ta : TE} {post : D → List Cell → Prop} (h : GoD K n ta ρ ts g fun _ g1 => post (.dict [(.none, .int (C : Nat))]) g1) : GoD K n (tExc1 C ta) ρ ts g post := by
  intro I0 H0 bs σ vs H hn w Q q
  refine h I0 H0 bs σ vs H hn w _ fun v H1 s g1 ⟨I, ls, w1⟩ ⟨d, e, p⟩ a ha => ?_
  subst e
  obtain ⟨w2, r⟩ := w1.pop
  exact q _ _ (.d _) g1 ⟨_, ls, (w2.step (fr_new w2.fr.ih ha)).push (.d (.op (.exc upd_same)))⟩ ⟨_, rfl, p⟩
theorem gd_xf {C : Addr} {f : Str} {te : TE} {post : D → List Cell → Prop} (T : XfC K C) (hno : PySem.W.findIn K (.ref C) f = some none) (h : GoD K n te ρ ts g fun d g1 => ∃ d', d = .dict [(.none, .tuple [.int (C : Nat), .str f, d'])] ∧ post d' g1) : GoD K n (tXfV K f te) ρ ts g post := by
  intro I0 H0 bs σ vs H hn w Q q
  refine h I0 H0 bs σ vs H hn w _ fun v H1 s g1 ⟨I, ls, w1⟩ ⟨d, e, d', e2, p⟩ => ?_
  subst e e2
  obtain ⟨w2, r⟩ := w1.pop
  cases r with
  | d i =>
    obtain ⟨a, dx, u, rfl, h1, h2, im⟩ := op_exf (is_op i)
    exact ⟨a, C, dx, _, u, rfl, T, hno, w2.fr.ih _ _ h1, w2.fr.ih _ _ h2, by simp, q _ H1 _ g1 ⟨I, ls, w2.push (.d (imm_is im))⟩ ⟨_, rfl, p⟩⟩
/-- what an own __init__(self, y) keeps: self.f = y -/
def spI (K : PySem.W.Frag) (f : Str) : Sp := fun vs H Q _ => ∃ (a C : Addr) (y : V) (d : D), vs = [.ref a, y] ∧ Imm y d ∧ OexC K C ∧ PySem.W.findIn K (.ref C) f = some none ∧ H a = some (exo a C none) ∧
  ∀ (H' : Hp) (dx : Addr), (∀ b o, H b = some o → H' b = some o) → H' dx = none → Q .non (upd (upd H' dx (exd dx [(f, y)])) a (exo a C (some dx)))
theorem spI_len {f : Str} {vs : List V} {H : Hp} {Q : VK} {E : XK} (h : spI K f vs H Q E) : vs.length = 2 := by
  obtain ⟨a, C, y, d, rfl, _⟩ := h
  rfl
theorem fr_exf {a dx C : Addr} {f : Str} {u : V} {H' : Hp} (ex : Ex I H) (ha : H a = none) (k : ∀ b o, upd H a (exo a C none) b = some o → H' b = some o) (hd : H' dx = none) :
    Fr [] I H (upd (upd I dx (exd dx [(f, u)])) a (exo a C (some dx))) (upd (upd H' dx (exd dx [(f, u)])) a (exo a C (some dx))) := by
  have nda : dx ≠ a := fun z => by
    have := k a _ upd_same
    rw [← z, hd] at this
    cases this
  have hdx : H dx = none := by
    cases z : H dx with
    | none => rfl
    | some o =>
      have := k dx o (by rw [upd_ne nda]; exact z)
      rw [hd] at this
      cases this
  have ia : I a = none := Evl.fresh_back ex ha
  have id : I dx = none := Evl.fresh_back ex hdx
  have up : ∀ b o, H b = some o → H' b = some o := fun b o e => k b o (by rw [upd_ne (ne_of_none e ha)]; exact e)
  have to : ∀ b o, H b = some o → upd (upd H' dx (exd dx [(f, u)])) a (exo a C (some dx)) b = some o := fun b o e => by
    rw [upd_ne (ne_of_none e ha), upd_ne (ne_of_none e hdx)]
    exact up b o e
  refine ⟨fun b o e => ?_, fun b o e => ?_, fun b o _ e => to b o e, fun b e => ?_, fun b e z => ?_⟩
  · rw [upd_ne (ne_of_none e ia), upd_ne (ne_of_none e id)]; exact e
  · by_cases z : b = a
    · subst z; rw [upd_same] at e ⊢; exact e
    · rw [upd_ne z] at e ⊢
      by_cases z2 : b = dx
      · subst z2; rw [upd_same] at e ⊢; exact e
      · rw [upd_ne z2] at e ⊢
        exact up b o (ex b o e)
  · cases z : H b with
    | none => exact absurd z e
    | some o => rw [to b o z]; exact fun y => nomatch y
  · rw [upd_ne (fun y : b = a => e (y ▸ ha)), upd_ne (fun y : b = dx => e (y ▸ hdx))]; exact z
theorem gd_mk1 {C : Addr} {f : Str} {ta : TA} {post : D → List Cell → Prop} (T : OexC K C) (hno : PySem.W.findIn K (.ref C) f = some none)
    (h : GoDs K n ta ρ ts g fun ds g1 => ∃ d, ds = [d] ∧ immD d = true ∧ post (.dict [(.none, .tuple [.int (C : Nat), .str f, d])]) g1) : GoD K n (tMkX C (spI K f) 1 [] ta) ρ ts g post := by
  intro I0 H0 bs σ vs H hn w Q q
  refine h I0 H0 bs σ vs H hn w _ fun ws H1 ss g1 hl ⟨I, ls, w1⟩ ⟨ds, e, d, e2, im, p⟩ => ?_
  subst e e2
  obtain ⟨w2, r2⟩ := w1.pops hl
  obtain ⟨y, rfl, iy⟩ := all1 (rels_d r2)
  have imy := is_imm iy im
  refine ⟨rfl, by decide, fun a ha => ⟨a, C, y, d, rfl, imy, T, hno, upd_same, fun H' dx k hd => ⟨rfl, ?_⟩⟩⟩
  exact q _ _ (.d _) g1 ⟨_, ls, (w2.step (fr_exf w2.fr.ih ha k hd)).push (.d (.op (.exf upd_same (by
    rw [upd_ne (fun z : dx = a => by
      have := k a _ upd_same
      rw [← z, hd] at this
      cases this), upd_same]) imy)))⟩ ⟨_, rfl, p⟩
theorem gd_mk0 {C : Addr} {f : Str} {post : D → List Cell → Prop} (T : OexC K C) (hno : PySem.W.findIn K (.ref C) f = some none)
    (p : post (.dict [(.none, .tuple [.int (C : Nat), .str f, .none])]) g) : GoD K n (tMkX C (spI K f) 0 [.non] tNil) ρ ts g post := by
  intro I0 H0 bs σ vs H hn ⟨I, ls, w2⟩ Q q
  refine ⟨rfl, by decide, fun a ha => ⟨a, C, .non, .none, rfl, .non, T, hno, upd_same, fun H' dx k hd => ⟨rfl, ?_⟩⟩⟩
  exact q _ _ (.d _) g ⟨_, ls, (w2.step (fr_exf w2.fr.ih ha k hd)).push (.d (.op (.exf upd_same (by
    rw [upd_ne (fun z : dx = a => by
      have := k a _ upd_same
      rw [← z, hd] at this
      cases this), upd_same]) .non)))⟩ ⟨_, rfl, p⟩
theorem opd_addS {x y : Str} {post : D → Prop} (hz : x.length + y.length ≤ 1000000) (p : post (.str (x ++ y))) : OpD K (un2 rAddS) [.str x, .str y] post := fun I H ws ex hw Q q => by
  obtain ⟨v, w, rfl, i1, i2⟩ := all2 hw
  cases is_str i1
  cases is_str i2
  exact ⟨_, _, rfl, x, y, rfl, rfl, by rw [sizeLine_eq]; omega, out0 ex q (.str _) p⟩
/-- list + list, one's own -/
theorem ge_catC {ta tb : TE} {post : PostE} (h : GoD K n ta ρ ts g fun d1 g1 => ∃ ds, d1 = .list ds ∧ GoD K n tb ρ (.d d1 :: ts) g1 fun d2 g2 => ∃ es, d2 = .list es ∧ ds.length + es.length ≤ 100000 ∧ post (.c g2.length) (g2 ++ [some (ds ++ es)])) : GoE K n (tOp (rAddA K) ta tb) ρ ts g post := by
  intro I0 H0 bs σ vs H hn w Q q
  refine h I0 H0 bs σ vs H hn w _ fun v H1 s g1 w1 ⟨d1, e, ds, e2, p⟩ => ?_
  subst e e2
  refine p I0 H0 bs σ _ H1 hn w1 _ fun y H2 s2 g2 ⟨I, ls, w2⟩ ⟨d2, e, es, e2, hz, pp⟩ => ?_
  subst e e2
  obtain ⟨w3, r2⟩ := w2.pop
  obtain ⟨w4, r1⟩ := w3.pop
  cases r1 with
  | d i1 =>
    cases r2 with
    | d i2 =>
      obtain ⟨a1, xs, rfl, hs1, ha1⟩ := is_list i1
      obtain ⟨a2, ys, rfl, hs2, ha2⟩ := is_list i2
      have i := ha1.append ha2
      refine .inr (.inl ⟨a1, a2, xs, ys, rfl, rfl, Evl.ex_rd w4.fr.ih hs1, Evl.ex_rd w4.fr.ih hs2, by rw [ha1.length, ha2.length]; exact Evl.sz_of hz, fun a ha => ?_⟩)
      have ia : I a = none := Evl.fresh_back w4.fr.ih ha
      have h0a : H0 a = none := by
        cases z : H0 a with
        | none => rfl
        | some o => exact absurd ha (w4.fr.dm a (by rw [z]; exact fun y => nomatch y))
      have na : a ∉ bs ++ ls := fun m => w4.ce.in_ a m ha
      have hj : (bs ++ (ls ++ [a]))[g2.length]? = some a := by
        rw [← List.append_assoc, ← w4.ce.len, List.getElem?_append_right (Nat.le_refl _), Nat.sub_self]
        rfl
      have up : ∀ (j : Nat) p, (bs ++ ls)[j]? = some p → (bs ++ (ls ++ [a]))[j]? = some p := fun j p e => by
        rw [← List.append_assoc, List.getElem?_append_left (List.getElem?_eq_some_iff.mp e).1]
        exact e
      have hx : ∀ b o, H2 b = some o → upd H2 a (.lst (xs ++ ys)) b = some o := fun b o e => by
        rw [upd_ne (ne_of_none e ha)]; exact e
      refine q (.ref a) _ (.c g2.length) _ ⟨I, ls ++ [a], ⟨⟨w4.fr.ii, fun b o e => hx b o (w4.fr.ih b o e), fun b o m e => hx b o (w4.fr.fr b o m e), fun b e => ?_, w4.fr.nw⟩, ?_, fun b m => ?_, Paired.imp (fun _ _ r => r.mono (Ex.refl I) up) w4.rs, .cons (.c hj) (Paired.imp (fun _ _ r => r.mono (Ex.refl I) up) w4.rv)⟩⟩ pp
      · cases z : H2 b with
        | none => exact absurd z (w4.fr.dm b e)
        | some o => rw [hx b o z]; exact fun y => nomatch y
      · rw [← List.append_assoc]
        exact Cells.snoc ia upd_same i na (w4.ce.keep (Ex.refl I) (fun b _ o e => hx b o e) fun _ _ e => e)
      · rcases List.mem_append.mp m with m | m
        · exact w4.lo b m
        · rw [List.mem_singleton] at m
          rw [m]; exact h0a
theorem gd_rep {ta tb : TE} {post : D → List Cell → Prop} (h : GoE K n ta ρ ts g fun s g1 => ∃ j : Nat, s = .c j ∧ GoD K n tb ρ (.c j :: ts) g1 fun dk g2 => ∃ (k : Nat) (ds : List D), dk = .int (k : Int) ∧ g2[j]? = some (some ds) ∧ ds.length * k ≤ 100000 ∧ k ≤ 100000 ∧ post (.list (List.replicate k ds).flatten) g2) : GoD K n (tOp rRep ta tb) ρ ts g post := by
  intro I0 H0 bs σ vs H hn w Q q
  refine h I0 H0 bs σ vs H hn w _ fun v H1 s g1 w1 ⟨j, e, p⟩ => ?_
  subst e
  refine p I0 H0 bs σ _ H1 hn w1 _ fun x H2 s2 g2 ⟨I, ls, w2⟩ ⟨di, e, k, ds, e2, hg, hz, hk, pp⟩ => ?_
  subst e e2
  obtain ⟨w3, r2⟩ := w2.pop
  obtain ⟨w4, r1⟩ := w3.pop
  cases r1 with
  | @c a _ hp =>
    cases r2 with
    | d ii =>
      cases is_int ii
      obtain ⟨_, xs, hx, ia⟩ := w4.ce.at hp hg
      refine ⟨a, (k : Int), xs, rfl, rfl, hx, by omega, by omega, by rw [Int.toNat_natCast, ia.length]; exact Evl.sz_of hz, fun p' hp' => ?_⟩
      have f := fr_new (o := .lst (List.replicate (k : Int).toNat xs).flatten) w4.fr.ih hp'
      exact q (.ref p') _ (.d (.list (List.replicate k ds).flatten)) g2 ⟨_, ls, (w4.step f).push (.d (.lst (.inl upd_same) ((isAll_rep ia k).mono f.ii)))⟩ ⟨_, rfl, pp⟩
def isNo : D → Bool
  | .none => true
  | _ => false
theorem opd_notN {d : D} {post : D → Prop} (hi : immD d = true) (p : post (.bool (!isNo d))) : OpD K (un2 rNotN0) [d, .none] post := fun I H ws ex hw Q q => by
  obtain ⟨v, w, rfl, i1, i2⟩ := all2 hw
  cases i2
  refine ⟨_, _, rfl, rfl, ?_⟩
  have e : decide (v = .non) = isNo d := by cases is_imm i1 hi <;> rfl
  rw [e]
  exact out0 ex q (.bl _) p
end
end Go
namespace Go
open PySem PySem.Spec PyProof.Rows L2 SetMix ZipE ExcA
open Evl (Ex)
local macro_rules | `(tactic| walk_at "g") => `(tactic| first
  | ((with_reducible refine gd_var (d := ?dd) ?hv ?_); (case hv => exact rfl))
  | ((with_reducible refine gd_ixScr (ns := ?ns) ?hv ?_); (case hv => exact rfl))
  | ((with_reducible refine gd_ixCel (j := ?jj) ?hv ?_); (case hv => exact rfl))
  | ((with_reducible refine gd_lenScr (ns := ?ns) ?hv ?_); (case hv => exact rfl))
  | with_reducible first
    | refine gs_seq ?_ | refine gs_next ?_ | refine gs_ret ?_ | refine gs_asgD ?_ | refine gs_if ?_
    | refine gt_test ?_ | refine gt_B ?_ | refine gt_and ?_ | refine gt_or ?_ | refine gt_not ?_ | refine gt_yes ?_
    | refine gd_int ?_ | refine gd_str ?_ | refine gd_bl ?_ | refine gd_non ?_
    | refine gd_op ?_ | refine gd_tup ?_ | refine gd_lst ?_
    | refine gd_cb (r := rLenA _) ?_ | refine gd_cb (r := rTupleA _) ?_ | refine gd_cb (r := rAbsA) ?_ | refine gd_cb (r := rMax2A) ?_ | refine gd_cb (r := rMin2A) ?_ | refine gd_cb (r := rIntA) ?_ | refine gd_cb (r := rAny _) ?_ | refine gd_cb (r := rAll _) ?_ | refine gd_cb (r := rDictP _) ?_ | refine gd_cb (r := rMax _) ?_ | refine gd_cb (r := rMin _) ?_
    | refine gs_cons ?_ | refine gs_nil ?_ | refine gd_dget ?_
    | refine gd_and ?_ | refine gd_or ?_ | refine gd_not ?_
    | refine opd_addI ?_ | refine opd_sub ?_ | refine opd_lt ?_ | refine opd_le ?_ | refine opd_gt ?_ | refine opd_ge ?_
    | refine opd_lenL ?_ | refine opd_lenT ?_ | refine opd_tupleL ?_ | refine opd_tupleT ?_ | refine opd_max2 ?_ | refine opd_min2 ?_ | refine opd_abs ?_ | refine opd_intB ?_
    | refine Exists.intro _ (And.intro rfl ?_))
abbrev VEm : List Value := [.type "ValueError", .type "Exception", .type "BaseException", .type "object"]
structure Cl where
  DayError : Addr
  ToldError : Addr
  AskedError : Addr
  NoHouse : Addr
  NoCases : Addr
  NoPlan : Addr
  NoCount : Addr
  NoMinutes : Addr
  NoLot : Addr
  NoText : Addr
  NoRow : Addr
  NoCase : Addr
  NotNow : Addr
  TooMany : Addr
  Crowded : Addr
  NothingLeft : Addr
def kcl (cl : Cl) : List Value := [.ref cl.AskedError, .ref cl.ToldError, .ref cl.Crowded, .ref cl.NoCase, .ref cl.NoCases, .ref cl.NoCount, .ref cl.NoHouse, .ref cl.NoLot, .ref cl.NoMinutes, .ref cl.NoPlan, .ref cl.NoRow, .ref cl.NoText, .ref cl.NotNow, .ref cl.NothingLeft, .ref cl.TooMany, .type "ValueError"]
def kws : List Str := ["asked ", "told ", "Crowded", "NoCase", "NoCases", "NoCount", "NoHouse", "NoLot", "NoMinutes", "NoPlan", "NoRow", "NoText", "NotNow", "NothingLeft", "TooMany", "+"]
/-- of which of these kinds an exception of the class at C is -/
def KindB (K : PySem.W.Frag) (cl : Cl) (C : Addr) (bs : List Bool) : Prop := (kcl cl).map (PySem.W.kitOne K (.ref C)) = bs.map some
def bs_NoHouse : List Bool := [false, true, false, false, false, false, true, false, false, false, false, false, false, false, false, true]
def bs_NoCases : List Bool := [false, true, false, false, true, false, false, false, false, false, false, false, false, false, false, true]
def bs_NoPlan : List Bool := [false, true, false, false, false, false, false, false, false, true, false, false, false, false, false, true]
def bs_NoCount : List Bool := [false, true, false, false, false, true, false, false, false, false, false, false, false, false, false, true]
def bs_NoMinutes : List Bool := [false, true, false, false, false, false, false, false, true, false, false, false, false, false, false, true]
def bs_NoLot : List Bool := [false, true, false, false, false, false, false, true, false, false, false, false, false, false, false, true]
def bs_NoRow : List Bool := [false, true, false, false, false, false, false, false, false, false, true, false, false, false, false, true]
def bs_NoText : List Bool := [false, true, false, false, false, false, false, false, false, false, false, true, false, false, false, true]
def bs_TooMany : List Bool := [true, false, false, false, false, false, false, false, false, false, false, false, false, false, true, true]
def bs_Crowded : List Bool := [true, false, true, false, false, false, false, false, false, false, false, false, false, false, false, true]
def bs_NothingLeft : List Bool := [true, false, false, false, false, false, false, false, false, false, false, false, false, true, false, true]
def bs_NoCase : List Bool := [true, false, false, true, false, false, false, false, false, false, false, false, false, false, false, true]
def bs_NotNow : List Bool := [true, false, false, false, false, false, false, false, false, false, false, false, true, false, false, true]
/-- what the text says of the classes -/
structure CF (K : PySem.W.Frag) (cl : Cl) : Prop where
  x_NoHouse : PySem.W.excIn K cl.NoHouse VEm "ValueError.__new__" = true
  k_NoHouse : PySem.W.keepIn K (.ref cl.NoHouse) = true
  e_NoHouse : L2.ExcC K cl.NoHouse
  d_NoHouse : PySem.W.kitOne K (.ref cl.NoHouse) (.ref cl.DayError) = some true
  b_NoHouse : KindB K cl cl.NoHouse bs_NoHouse
  x_NoCases : PySem.W.excIn K cl.NoCases VEm "ValueError.__new__" = true
  k_NoCases : PySem.W.keepIn K (.ref cl.NoCases) = true
  e_NoCases : L2.ExcC K cl.NoCases
  d_NoCases : PySem.W.kitOne K (.ref cl.NoCases) (.ref cl.DayError) = some true
  b_NoCases : KindB K cl cl.NoCases bs_NoCases
  x_NoPlan : PySem.W.excIn K cl.NoPlan VEm "ValueError.__new__" = true
  k_NoPlan : PySem.W.keepIn K (.ref cl.NoPlan) = true
  e_NoPlan : L2.ExcC K cl.NoPlan
  d_NoPlan : PySem.W.kitOne K (.ref cl.NoPlan) (.ref cl.DayError) = some true
  b_NoPlan : KindB K cl cl.NoPlan bs_NoPlan
  x_NoCount : PySem.W.excIn K cl.NoCount VEm "ValueError.__new__" = true
  k_NoCount : PySem.W.keepIn K (.ref cl.NoCount) = true
  e_NoCount : L2.ExcC K cl.NoCount
  d_NoCount : PySem.W.kitOne K (.ref cl.NoCount) (.ref cl.DayError) = some true
  b_NoCount : KindB K cl cl.NoCount bs_NoCount
  x_NoMinutes : PySem.W.excIn K cl.NoMinutes VEm "ValueError.__new__" = true
  k_NoMinutes : PySem.W.keepIn K (.ref cl.NoMinutes) = true
  e_NoMinutes : L2.ExcC K cl.NoMinutes
  d_NoMinutes : PySem.W.kitOne K (.ref cl.NoMinutes) (.ref cl.DayError) = some true
  b_NoMinutes : KindB K cl cl.NoMinutes bs_NoMinutes
  x_NoLot : PySem.W.excIn K cl.NoLot VEm "ValueError.__new__" = true
  k_NoLot : PySem.W.keepIn K (.ref cl.NoLot) = true
  e_NoLot : L2.ExcC K cl.NoLot
  d_NoLot : PySem.W.kitOne K (.ref cl.NoLot) (.ref cl.DayError) = some true
  b_NoLot : KindB K cl cl.NoLot bs_NoLot
  x_NoRow : PySem.W.excIn K cl.NoRow VEm "ValueError.__new__" = true
  k_NoRow : PySem.W.keepIn K (.ref cl.NoRow) = true
  e_NoRow : L2.ExcC K cl.NoRow
  d_NoRow : PySem.W.kitOne K (.ref cl.NoRow) (.ref cl.DayError) = some true
  b_NoRow : KindB K cl cl.NoRow bs_NoRow
  o_NoText : OexC K cl.NoText
  f_NoText : PySem.W.findIn K (.ref cl.NoText) "line" = some none
  g_NoText : XfC K cl.NoText
  e_NoText : L2.ExcC K cl.NoText
  d_NoText : PySem.W.kitOne K (.ref cl.NoText) (.ref cl.DayError) = some true
  b_NoText : KindB K cl cl.NoText bs_NoText
  x_TooMany : PySem.W.excIn K cl.TooMany VEm "ValueError.__new__" = true
  k_TooMany : PySem.W.keepIn K (.ref cl.TooMany) = true
  e_TooMany : L2.ExcC K cl.TooMany
  d_TooMany : PySem.W.kitOne K (.ref cl.TooMany) (.ref cl.DayError) = some true
  b_TooMany : KindB K cl cl.TooMany bs_TooMany
  x_Crowded : PySem.W.excIn K cl.Crowded VEm "ValueError.__new__" = true
  k_Crowded : PySem.W.keepIn K (.ref cl.Crowded) = true
  e_Crowded : L2.ExcC K cl.Crowded
  d_Crowded : PySem.W.kitOne K (.ref cl.Crowded) (.ref cl.DayError) = some true
  b_Crowded : KindB K cl cl.Crowded bs_Crowded
  x_NothingLeft : PySem.W.excIn K cl.NothingLeft VEm "ValueError.__new__" = true
  k_NothingLeft : PySem.W.keepIn K (.ref cl.NothingLeft) = true
  e_NothingLeft : L2.ExcC K cl.NothingLeft
  d_NothingLeft : PySem.W.kitOne K (.ref cl.NothingLeft) (.ref cl.DayError) = some true
  b_NothingLeft : KindB K cl cl.NothingLeft bs_NothingLeft
  o_NoCase : OexC K cl.NoCase
  f_NoCase : PySem.W.findIn K (.ref cl.NoCase) "name" = some none
  g_NoCase : XfC K cl.NoCase
  e_NoCase : L2.ExcC K cl.NoCase
  d_NoCase : PySem.W.kitOne K (.ref cl.NoCase) (.ref cl.DayError) = some true
  b_NoCase : KindB K cl cl.NoCase bs_NoCase
  o_NotNow : OexC K cl.NotNow
  f_NotNow : PySem.W.findIn K (.ref cl.NotNow) "name" = some none
  g_NotNow : XfC K cl.NotNow
  e_NotNow : L2.ExcC K cl.NotNow
  d_NotNow : PySem.W.kitOne K (.ref cl.NotNow) (.ref cl.DayError) = some true
  b_NotNow : KindB K cl cl.NotNow bs_NotNow
  b_ToldError : BaseI K cl.ToldError
  b_AskedError : BaseI K cl.AskedError
/-! ### texts -/
def okS (x : Str) : Prop := PyData.canLay0 (.str x) = true
def cp (x : Str) : List Nat := x.cps.toList
theorem cp_app (a b : Str) : cp (a ++ b) = cp a ++ cp b := by
  unfold cp
  show (a.cps ++ b.cps).toList = _
  rw [Array.toList_append]
theorem okS_iff {x : Str} : okS x ↔ ∀ c ∈ cp x, c < 1114112 := by
  unfold okS PyData.canLay0 PyData.strOk cp
  rw [← Array.all_toList, List.all_eq_true]
  exact ⟨fun h c hc => of_decide_eq_true (h c hc), fun h c hc => decide_eq_true (h c hc)⟩
theorem okS_app {a b : Str} (h : okS a) (k : okS b) : okS (a ++ b) := okS_iff.mpr fun c hc => by
  rw [cp_app] at hc
  rcases List.mem_append.mp hc with m | m
  · exact okS_iff.mp h c m
  · exact okS_iff.mp k c m
theorem ok_empty : okS "" := by unfold okS; decide +kernel
theorem okS_join : ∀ {xs : List Str}, (∀ x ∈ xs, okS x) → okS (Str.join "" xs)
  | [], _ => ok_empty
  | [x], h => h x List.mem_cons_self
  | x :: y :: r, h => okS_app (okS_app (h x List.mem_cons_self) ok_empty) (okS_join fun z hz => h z (List.mem_cons_of_mem _ hz))
theorem shS {x : Str} (h : okS x) : SeqAt.shaped (.str x) = true := by
  unfold SeqAt.shaped
  rw [Bool.and_eq_true]
  exact ⟨h, by simp [PyData.depth]⟩
theorem eqv_str (x y : Str) : PyData.eqv (.str x) (.str y) = decide (x = y) := by
  by_cases h : x = y
  · subst h; simp [PyData.eqv]
  · simp [PyData.eqv, h]
theorem rng_at {m k : Nat} {d : D} (h : (rngD 0 m)[k]? = some d) : d = .int (k : Int) ∧ k < m := by
  unfold rngD at h
  rw [List.getElem?_map] at h
  by_cases z : k < m
  · rw [List.getElem?_range z] at h
    cases h
    exact ⟨by simp, z⟩
  · rw [List.getElem?_eq_none (by simpa using z)] at h
    cases h
theorem noC2 {ns : List Int} {k : Nat} : NoC [.s ns, .d (.int (k : Int))] := fun s hs j => by
  simp at hs
  rcases hs with rfl | rfl <;> simp
section
variable {K : PySem.W.Frag} {wd : PySem.World} {n : Nat} {ρ ts : List SV} {g : List Cell}
theorem gg2 {a b : Nat} {x y : D} {post : List SV → Prop} (p : post ((ρ.set a (.d x)).set b (.d y))) : GoG K n (gTup K 2 (gCons (gName a) (gCons (gName b) gNil))) (.tuple [x, y]) ρ ts g post :=
  gg_tup rfl (ggs_cons (gg_name (ggs_cons (gg_name (ggs_nil p)))))
/-! ### copied, of a number, a text or nothing -/
def Rcopied : RSpec := fun ss g post => ∃ d, ss = [.d d] ∧ g = [] ∧ immD d = true ∧ post d []
def tcopied (K : PySem.W.Frag) (wd : PySem.World) : TS := (tSeq (tIfS (tB (tCB (rIsi K) (tCons (tVar 0) (tCons (tC (.ty "list")) tNil)))) Go.tNever tNext) (tSeq (tIfS (tB (tCB (rIsi K) (tCons (tVar 0) (tCons (tC (.ty "tuple")) tNil)))) Go.tNever tNext) (tRet (tVar 0))))
theorem imm_no {d : D} (h : immD d = true) : (∀ k, d ≠ .dict [(.none, k)]) ∧ isaD "list" d = false ∧ isaD "tuple" d = false := by
  cases d <;> first | (cases h; done) | exact ⟨fun k z => (nomatch z), rfl, rfl⟩
theorem go_copied (ss : List SV) (g : List Cell) (post : D → List Cell → Prop) (h : Rcopied ss g post) : GoS K g.length (tcopied K wd) (ss ++ List.replicate (2 - ss.length) .no) g (KF g.length post) := by
  obtain ⟨d, rfl, rfl, im, p⟩ := h
  obtain ⟨h1, h2, h3⟩ := imm_no im
  unfold tcopied
  refine gs_seq (gs_if (gt_B (gd_isi (by simp) (gd_var rfl ⟨h1, _, rfl, fun z => absurd z (by rw [h2]; decide), fun _ => gs_next ?_⟩))))
  refine gs_seq (gs_if (gt_B (gd_isi (by simp) (gd_var rfl ⟨h1, _, rfl, fun z => absurd z (by rw [h3]; decide), fun _ => gs_next ?_⟩))))
  exact gs_ret (gd_var rfl ⟨_, rfl, p⟩)
/-! ### names -/
def R_law_name : RSpec := fun ss g post => ∃ b, ss = [.c 0] ∧ g = [some b] ∧ Bag b ∧ ∀ x b', okS x → Bag b' → post (.str x) [some b']
def t_law_name (K : PySem.W.Frag) (wd : PySem.World) : TS := (tSeq (tAsg (tOp (rAddA K) (tC (.int 1)) (tOp (rIx K) (tLst (tCons (tCall (spOf K R_law_take) [] E0 (tCons (tVar 0) (tCons (tC (.int 3)) tNil))) (tCons (tCall (spOf K R_law_take) [] E0 (tCons (tVar 0) (tCons (tC (.int 8)) tNil))) tNil))) (tCB rIntA (tCons (tOp (rEqD K) (tCall (spOf K R_law_take) [] E0 (tCons (tVar 0) (tCons (tC (.int 4)) tNil))) (tC (.int 0))) tNil)))) (gName 1)) (tRet (tM1 (rJoinT K) (tC (.str "")) (tLc (iRng1 (tCons (tVar 1) tNil)) (gName 2) tYes (tOp (rIx K) (tC (.str "abcdefghijklmnopqrstuvwxyz")) (tCall (spOf K R_law_take) [] E0 (tCons (tVar 0) (tCons (tC (.int 26)) tNil)))) [2]))))
theorem abc (m : Int) (h0 : 0 ≤ m) (h1 : m < 26) : ∃ c : Nat, atI ("abcdefghijklmnopqrstuvwxyz" : Str).cps.toList m = some c ∧ c < 1114112 := by
  have e : (("abcdefghijklmnopqrstuvwxyz" : Str).cps.toList).length = 26 := by decide +kernel
  have a : ∀ c ∈ ("abcdefghijklmnopqrstuvwxyz" : Str).cps.toList, c < 1114112 := by decide +kernel
  generalize ("abcdefghijklmnopqrstuvwxyz" : Str).cps.toList = l at e a
  have hm : m.toNat < l.length := by omega
  have z := atI_nat (List.getElem?_eq_getElem hm)
  rw [show ((m.toNat : Nat) : Int) = m by omega] at z
  exact ⟨_, z, a _ (List.getElem_mem hm)⟩
theorem go_law_name (ss : List SV) (g : List Cell) (post : D → List Cell → Prop) (h : R_law_name ss g post) : GoS K g.length (t_law_name K wd) (ss ++ List.replicate (3 - ss.length) .no) g (KF g.length post) := by
  obtain ⟨b, rfl, rfl, hb, p⟩ := h
  unfold t_law_name
  have many : ∀ q : D → List Cell → Prop, (∀ (m : Int) b', 1 ≤ m → m ≤ 8 → Bag b' → q (.int m) [some b']) → GoD K 1 (tOp (rAddA K) (tC (.int 1)) (tOp (rIx K) (tLst (tCons (tCall (spOf K R_law_take) [] E0 (tCons (tVar 0) (tCons (tC (.int 3)) tNil))) (tCons (tCall (spOf K R_law_take) [] E0 (tCons (tVar 0) (tCons (tC (.int 8)) tNil))) tNil))) (tCB rIntA (tCons (tOp (rEqD K) (tCall (spOf K R_law_take) [] E0 (tCons (tVar 0) (tCons (tC (.int 4)) tNil))) (tC (.int 0))) tNil)))) [.c 0, .no, .no] [] [some b] q := by
    intro q hq
    refine gd_op (gd_int (gd_op (gd_lst (gs_cons (gd_takeC rfl hb (by decide) fun m1 b1 h1 h1' hb1 => gs_cons (gd_takeC rfl hb1 (by decide) fun m2 b2 h2 h2' hb2 => gs_nil ⟨by show 2 ≤ 100000; decide, ?_⟩))))))
    refine gd_cb (r := rIntA) (gs_cons (gd_op (gd_takeC rfl hb2 (by decide) fun m3 b3 h3 h3' hb3 => gd_int (opd_eq (by simp [SeqAt.shaped, PyData.canLay0, PyData.depth]) (by simp [SeqAt.shaped, PyData.canLay0, PyData.depth]) (gs_nil (opd_intB ?_))))))
    cases PyData.eqv (.int m3) (.int 0)
    · exact opd_ixL (d := .int m1) rfl (opd_addI (hq _ _ (by omega) (by omega) hb3))
    · exact opd_ixL (d := .int m2) rfl (opd_addI (hq _ _ (by omega) (by omega) hb3))
  refine gs_seq (gs_asgD (many _ fun m b1 h1 h2 hb1 => ?_))
  refine gs_ret (gd_join (gd_str ⟨_, rfl, gd_lc mg_name (ij_name (by simp)) (gi_rng1 (gs_cons (gd_var rfl (gs_nil ⟨m, rfl, by omega, by omega, ?_⟩))))⟩))
  refine ⟨by rw [rngD_len]; omega, fun i acc g => ∃ xs b, g = [some b] ∧ Bag b ∧ acc = xs.map PyData.str ∧ xs.length ≤ i ∧ ∀ x ∈ xs, okS x ∧ x.length = 1, ⟨[], b1, rfl, hb1, rfl, Nat.le_refl _, fun _ z => nomatch z⟩, fun i d acc g2 hi ⟨xs, b2, e1, hb2, e2, hl, hm⟩ => ?_, fun acc g2 ⟨xs, b2, e1, hb2, e2, hl, hm⟩ => ?_⟩
  · subst e1 e2
    refine gg_name (gt_yes ⟨fun _ => ?_, fun z => nomatch z⟩)
    refine gd_op (gd_str (gd_takeC rfl hb2 (by decide) fun m3 b3 h3 h3' hb3 => ?_))
    obtain ⟨c, hc, lc⟩ := abc m3 h3 h3'
    refine opd_ixS (by decide +kernel) hc ⟨rfl, xs ++ [⟨#[c]⟩], b3, rfl, hb3, by rw [List.map_append]; rfl, by rw [List.length_append]; show xs.length + 1 ≤ i + 1; omega, fun y hy => ?_⟩
    rcases List.mem_append.mp hy with hy | hy
    · exact hm y hy
    · rw [List.mem_singleton] at hy
      rw [hy]
      exact ⟨okS_iff.mpr fun z hz => by
        have : z = c := by simpa [cp] using hz
        omega, rfl⟩
  · subst e1 e2
    rw [rngD_len] at hl
    have sum : ∀ l : List Str, (∀ x ∈ l, okS x ∧ x.length = 1) → (l.map (·.length)).sum = l.length := fun l => by
      induction l with
      | nil => intro _; rfl
      | cons x r ih =>
        intro h
        rw [List.map_cons, List.sum_cons, ih fun y hy => h y (List.mem_cons_of_mem _ hy), (h x List.mem_cons_self).2, List.length_cons]
        omega
    refine ⟨xs, rfl, ?_, ⟨_, rfl, p _ b2 ?_ hb2⟩⟩
    · rw [sum xs hm]
      show _ + xs.length * 0 ≤ _
      omega
    · rw [TL.join_eq]
      exact okS_join fun x hx => (hm x hx).1
/-! ### kinds -/
def sel (bs : List Bool) : List Str := ((kws.zip bs).filter (·.2)).map (·.1)
def selN (i : Nat) (bs : List Bool) : List Str := (((kws.zip bs).take i).filter (·.2)).map (·.1)
theorem selN_succ {i : Nat} {bs : List Bool} {w : Str} {b : Bool} (h : (kws.zip bs)[i]? = some (w, b)) : selN (i + 1) bs = selN i bs ++ (if b = true then [w] else []) := by
  unfold selN
  rw [List.take_add_one, h, List.filter_append, List.map_append]
  cases b <;> rfl
def R_law_kinds (K : PySem.W.Frag) (cl : Cl) : RSpec := fun ss g post => ∃ d C bs, ss = [.d d] ∧ g = [] ∧ XD C d ∧ L2.ExcC K C ∧ KindB K cl C bs ∧ post (.str (Txt.join "" (sel bs))) []
def t_law_kinds (cl : Cl) (K : PySem.W.Frag) (wd : PySem.World) : TS := (tSeq (tAsg (tLst (tCons (tCB (rIsX K) (tCons (tVar 0) (tCons (tC (.ref cl.AskedError)) tNil))) (tCons (tCB (rIsX K) (tCons (tVar 0) (tCons (tC (.ref cl.ToldError)) tNil))) (tCons (tCB (rIsX K) (tCons (tVar 0) (tCons (tC (.ref cl.Crowded)) tNil))) (tCons (tCB (rIsX K) (tCons (tVar 0) (tCons (tC (.ref cl.NoCase)) tNil))) tNil))))) (gName 1)) (tSeq (tAsg (tOp (rAddA K) (tVar 1) (tLst (tCons (tCB (rIsX K) (tCons (tVar 0) (tCons (tC (.ref cl.NoCases)) tNil))) (tCons (tCB (rIsX K) (tCons (tVar 0) (tCons (tC (.ref cl.NoCount)) tNil))) (tCons (tCB (rIsX K) (tCons (tVar 0) (tCons (tC (.ref cl.NoHouse)) tNil))) (tCons (tCB (rIsX K) (tCons (tVar 0) (tCons (tC (.ref cl.NoLot)) tNil))) tNil)))))) (gName 1)) (tSeq (tAsg (tOp (rAddA K) (tVar 1) (tLst (tCons (tCB (rIsX K) (tCons (tVar 0) (tCons (tC (.ref cl.NoMinutes)) tNil))) (tCons (tCB (rIsX K) (tCons (tVar 0) (tCons (tC (.ref cl.NoPlan)) tNil))) (tCons (tCB (rIsX K) (tCons (tVar 0) (tCons (tC (.ref cl.NoRow)) tNil))) (tCons (tCB (rIsX K) (tCons (tVar 0) (tCons (tC (.ref cl.NoText)) tNil))) tNil)))))) (gName 1)) (tSeq (tAsg (tOp (rAddA K) (tVar 1) (tLst (tCons (tCB (rIsX K) (tCons (tVar 0) (tCons (tC (.ref cl.NotNow)) tNil))) (tCons (tCB (rIsX K) (tCons (tVar 0) (tCons (tC (.ref cl.NothingLeft)) tNil))) (tCons (tCB (rIsX K) (tCons (tVar 0) (tCons (tC (.ref cl.TooMany)) tNil))) tNil))))) (gName 1)) (tSeq (tDrop (tBM K "list" rAppend (tVar 1) (tCons (tCB (rIsX K) (tCons (tVar 0) (tCons (tC (.ty "ValueError")) tNil))) tNil))) (tSeq (tAsg (tLst (tCons (tC (.str "asked ")) (tCons (tC (.str "told ")) (tCons (tC (.str "Crowded")) (tCons (tC (.str "NoCase")) (tCons (tC (.str "NoCases")) (tCons (tC (.str "NoCount")) (tCons (tC (.str "NoHouse")) (tCons (tC (.str "NoLot")) (tCons (tC (.str "NoMinutes")) (tCons (tC (.str "NoPlan")) tNil))))))))))) (gName 2)) (tSeq (tAsg (tOp (rAddA K) (tVar 2) (tLst (tCons (tC (.str "NoRow")) (tCons (tC (.str "NoText")) (tCons (tC (.str "NotNow")) (tCons (tC (.str "NothingLeft")) (tCons (tC (.str "TooMany")) (tCons (tC (.str "+")) tNil)))))))) (gName 2)) (tRet (tM1 (rJoinT K) (tC (.str "")) (tLc (iRng1 (tCons (tC (.int 16)) tNil)) (gName 3) (tB (tOp (rIx K) (tVar 1) (tVar 3))) (tOp (rIx K) (tVar 2) (tVar 3)) [3]))))))))))
theorem gx {i : Nat} {a C : Addr} {b : Bool} {d : D} {post : D → List Cell → Prop} (hv : ρ[i]? = some (.d d)) (x : XD C d) (T : L2.ExcC K C) (hk : PySem.W.kitOne K (.ref C) (.ref a) = some b) (p : post (.bool b) g) : GoD K n (tCB (rIsX K) (tCons (tVar i) (tCons (tC (.ref a)) tNil))) ρ ts g post :=
  gd_isX (fun u h => h) (gd_var hv ⟨C, b, x, T, hk, p⟩)
theorem kws_len : ∀ w ∈ kws, w.length ≤ 20 := by decide +kernel
theorem sum20 : ∀ l : List Str, (∀ w ∈ l, w.length ≤ 20) → (l.map (·.length)).sum ≤ 20 * l.length := fun l => by
  induction l with
  | nil => intro _; exact Nat.le_refl _
  | cons x r ih =>
    intro h
    have := ih fun y hy => h y (List.mem_cons_of_mem _ hy)
    have := h x List.mem_cons_self
    rw [List.map_cons, List.sum_cons, List.length_cons]
    omega
theorem go_law_kinds {cl : Cl} (cf : CF K cl) (ss : List SV) (g : List Cell) (post : D → List Cell → Prop) (h : R_law_kinds K cl ss g post) : GoS K g.length (t_law_kinds cl K wd) (ss ++ List.replicate (4 - ss.length) .no) g (KF g.length post) := by
  obtain ⟨d, C, bs, rfl, rfl, x, T, hk, p⟩ := h
  unfold t_law_kinds
  have hl : bs.length = 16 := by
    have := congrArg List.length hk
    rw [List.length_map, List.length_map] at this
    exact this.symm
  match bs, hl with
  | [b0, b1, b2, b3, b4, b5, b6, b7, b8, b9, b10, b11, b12, b13, b14, b15], _ =>
    unfold KindB kcl at hk
    simp only [List.map_cons, List.map_nil, List.cons.injEq, and_true] at hk
    obtain ⟨e0, e1, e2, e3, e4, e5, e6, e7, e8, e9, e10, e11, e12, e13, e14, e15⟩ := hk
    refine gs_seq (gs_asgD (gd_lst (gs_cons (gx rfl x T e0 (gs_cons (gx rfl x T e1 (gs_cons (gx rfl x T e2 (gs_cons (gx rfl x T e3 (gs_nil ⟨by simp, ?_⟩)))))))))))
    refine gs_seq (gs_asgD (gd_op (gd_var rfl (gd_lst (gs_cons (gx rfl x T e4 (gs_cons (gx rfl x T e5 (gs_cons (gx rfl x T e6 (gs_cons (gx rfl x T e7 (gs_nil ⟨by simp, opd_addL (by simp) ?_⟩)))))))))))))
    refine gs_seq (gs_asgD (gd_op (gd_var rfl (gd_lst (gs_cons (gx rfl x T e8 (gs_cons (gx rfl x T e9 (gs_cons (gx rfl x T e10 (gs_cons (gx rfl x T e11 (gs_nil ⟨by simp, opd_addL (by simp) ?_⟩)))))))))))))
    refine gs_seq (gs_asg (ge_catC (gd_var rfl ⟨_, rfl, gd_lst (gs_cons (gx rfl x T e12 (gs_cons (gx rfl x T e13 (gs_cons (gx rfl x T e14 (gs_nil ⟨by simp, _, rfl, by simp, ?_⟩)))))))⟩)))
    refine gs_seq (gs_app (ge_var rfl (fun z => nomatch z) ⟨0, _, rfl, rfl, gd_isX (cv := .type "ValueError") (fun u h => h) (gd_var rfl ⟨C, b15, x, T, e15, _, rfl, by simp, ?_⟩)⟩))
    refine gs_seq (gs_asgD (gd_lst ?_))
    (repeat (walk_at "g"))
    refine ⟨by simp, ?_⟩
    refine gs_seq (gs_asgD (gd_op (gd_var rfl (gd_lst ?_))))
    (repeat (walk_at "g"))
    refine ⟨by simp, opd_addL (by simp) ?_⟩
    refine gs_ret (gd_join (gd_str ⟨_, rfl, gd_lc mg_name (ij_name (by simp)) (gi_rng1 (gs_cons (gd_int (gs_nil ⟨16, rfl, by omega, by omega, ?_⟩))))⟩))
    refine ⟨by rw [rngD_len]; decide, fun i acc g => i ≤ 16 ∧ g = [some ([b0, b1, b2, b3, b4, b5, b6, b7, b8, b9, b10, b11, b12, b13, b14, b15].map PyData.bool)] ∧ acc = (selN i [b0, b1, b2, b3, b4, b5, b6, b7, b8, b9, b10, b11, b12, b13, b14, b15]).map PyData.str, ⟨by decide, rfl, rfl⟩, fun i d2 acc g2 hi ⟨li, eg, ea⟩ => ?_, fun acc g2 ⟨li, eg, ea⟩ => ?_⟩
    · obtain ⟨rfl, lt⟩ := rng_at hi
      subst eg ea
      have lz : i < (kws.zip [b0, b1, b2, b3, b4, b5, b6, b7, b8, b9, b10, b11, b12, b13, b14, b15]).length := lt
      have lw : i < kws.length := lt
      have lb : i < [b0, b1, b2, b3, b4, b5, b6, b7, b8, b9, b10, b11, b12, b13, b14, b15].length := lt
      have hz : (kws.zip [b0, b1, b2, b3, b4, b5, b6, b7, b8, b9, b10, b11, b12, b13, b14, b15])[i]? = some (kws[i], [b0, b1, b2, b3, b4, b5, b6, b7, b8, b9, b10, b11, b12, b13, b14, b15][i]) := by
        rw [List.getElem?_eq_getElem lz, List.getElem_zip]
        rfl
      have hb : atI ([b0, b1, b2, b3, b4, b5, b6, b7, b8, b9, b10, b11, b12, b13, b14, b15].map PyData.bool) (i : Int) = some (.bool [b0, b1, b2, b3, b4, b5, b6, b7, b8, b9, b10, b11, b12, b13, b14, b15][i]) := atI_nat (by rw [List.getElem?_map, List.getElem?_eq_getElem lb]; rfl)
      have hw : atI (kws.map PyData.str) (i : Int) = some (.str kws[i]) := atI_nat (by rw [List.getElem?_map, List.getElem?_eq_getElem lw]; rfl)
      have sc := selN_succ hz
      generalize [b0, b1, b2, b3, b4, b5, b6, b7, b8, b9, b10, b11, b12, b13, b14, b15][i] = b at hb sc
      refine gg_name (gt_B (gd_ixCel rfl (gd_var rfl ⟨i, _, _, rfl, rfl, hb, b, rfl, fun e => ?_, fun e => ?_⟩)))
      · subst e
        exact gd_op (gd_var rfl (gd_var rfl (opd_ixL hw ⟨rfl, lt, rfl, by rw [sc, if_pos rfl, List.map_append]; rfl⟩)))
      · subst e
        exact ⟨rfl, lt, rfl, by rw [sc, if_neg Bool.false_ne_true, List.append_nil]⟩
    · subst eg ea
      rw [rngD_len]
      have e16 : selN (16 : Int).toNat [b0, b1, b2, b3, b4, b5, b6, b7, b8, b9, b10, b11, b12, b13, b14, b15] = sel [b0, b1, b2, b3, b4, b5, b6, b7, b8, b9, b10, b11, b12, b13, b14, b15] := rfl
      rw [e16]
      have mem : ∀ w ∈ sel [b0, b1, b2, b3, b4, b5, b6, b7, b8, b9, b10, b11, b12, b13, b14, b15], w.length ≤ 20 := fun w hw => by
        obtain ⟨q, hq, rfl⟩ := List.mem_map.mp hw
        exact kws_len _ (List.of_mem_zip (List.mem_filter.mp hq).1).1
      have le : (sel [b0, b1, b2, b3, b4, b5, b6, b7, b8, b9, b10, b11, b12, b13, b14, b15]).length ≤ 16 := by
        unfold sel
        rw [List.length_map]
        exact Nat.le_trans (List.length_filter_le _ _) (Nat.le_of_eq rfl)
      have := sum20 _ mem
      exact ⟨_, rfl, by show _ + _ * 0 ≤ _; omega, _, rfl, p⟩
/-! ### what an own __init__ does -/
def t_ini (K : PySem.W.Frag) (msg f : Str) (te : TE) : TS := tSeq (tDrop (tVeI K (tCons (tVar 0) (tCons (tC (.str msg)) tNil)))) (tOst K f (tVar 0) te)
theorem ini_ok {msg f : Str} {te : TE} {vs : List V} {H : Hp} {Q : VK} {E : XK} (hte : ∀ (x y : V) (d : D) (H : Hp) (Q : VK), Imm y d → (∀ H', (∀ b o, H b = some o → H' b = some o) → Q y H') → te [some x, some y] H Q)
    (N : List Str) (hN : N.length = 2) (h : spI K f vs H Q E) : t_ini K msg f te { nx := fun _ H' => Q .non H', rt := Q } (L2.start N vs) H := by
  obtain ⟨a, C, y, d, rfl, im, T, no, ha, q⟩ := h
  have es : L2.start N [.ref a, y] = [some (.ref a), some y] := by
    unfold L2.start
    rw [hN]
    rfl
  rw [es]
  refine ⟨.ref a, rfl, a, C, [.str msg], rfl, (by show 1 ≤ 1000; decide), T, ha, ?_⟩
  refine hte _ y d H _ im fun H' k => ⟨.ref a, rfl, a, C, rfl, T, no, .inl ⟨k a _ ha, fun dx hd _ => q H' dx k hd⟩⟩
theorem te_line (x y : V) (d : D) (H : Hp) (Q : VK) (im : Imm y d) (q : ∀ H', (∀ b o, H b = some o → H' b = some o) → Q y H') : (tVar 1) [some x, some y] H Q := ⟨y, rfl, q H fun _ _ e => e⟩
theorem te_name (x y : V) (d : D) (H : Hp) (Q : VK) (im : Imm y d) (q : ∀ H', (∀ b o, H b = some o → H' b = some o) → Q y H') : (tCall (spOf K Rcopied) [] E0 (tCons (tVar 1) tNil)) [some x, some y] H Q := by
  refine ⟨y, rfl, fun _ => none, [], [.d d], [], fun d' _ => d' = d, (fun _ _ z => nomatch z), .nil, .cons (.d (imm_is im)) .nil, ⟨d, rfl, rfl, imm_D im, rfl⟩, fun v I' H' d' g' f _ i e => ?_⟩
  subst e
  have := imm_eq (is_imm i (imm_D im)) im
  subst this
  exact q H' fun b o e => f.fr b o (fun z => nomatch z) e
/-! ### the law -/
def eD (C : Addr) : D := .dict [(.none, .int (C : Nat))]
def fD (C : Addr) (f : Str) (d : D) : D := .dict [(.none, .tuple [.int (C : Nat), .str f, d])]
theorem pX {C : Addr} {w : Str} {post : D → List Cell → Prop} (p : post (.tuple [eD C, .str w]) g) : GoD K n (tTup (tCons (tExc1 C (tC (.str "x"))) (tCons (tC (.str w)) tNil))) ρ ts g post :=
  gd_tup (gs_cons (gd_exc (gd_str (gs_cons (gd_str (gs_nil ⟨(by show 2 ≤ 100000; decide), p⟩))))))
theorem p1 {C : Addr} {f w : Str} {i : Nat} {d : D} {post : D → List Cell → Prop} (T : OexC K C) (hno : PySem.W.findIn K (.ref C) f = some none) (hv : ρ[i]? = some (.d d)) (im : immD d = true) (p : post (.tuple [fD C f d, .str w]) g) : GoD K n (tTup (tCons (tMkX C (spI K f) 1 [] (tCons (tVar i) tNil)) (tCons (tC (.str w)) tNil))) ρ ts g post :=
  gd_tup (gs_cons (gd_mk1 T hno (gs_cons (gd_var hv (gs_nil ⟨d, rfl, im, gs_cons (gd_str (gs_nil ⟨(by show 2 ≤ 100000; decide), p⟩))⟩)))))
theorem p0 {C : Addr} {f w : Str} {post : D → List Cell → Prop} (T : OexC K C) (hno : PySem.W.findIn K (.ref C) f = some none) (p : post (.tuple [fD C f .none, .str w]) g) : GoD K n (tTup (tCons (tMkX C (spI K f) 0 [.non] tNil) (tCons (tC (.str w)) tNil))) ρ ts g post :=
  gd_tup (gs_cons (gd_mk0 T hno (gs_cons (gd_str (gs_nil ⟨(by show 2 ≤ 100000; decide), p⟩)))))
/-- C(y).f -/
theorem q1 {C : Addr} {f : Str} {i : Nat} {d : D} {post : D → List Cell → Prop} (T : OexC K C) (X : XfC K C) (hno : PySem.W.findIn K (.ref C) f = some none) (hv : ρ[i]? = some (.d d)) (im : immD d = true) (p : post d g) : GoD K n (tXfV K f (tMkX C (spI K f) 1 [] (tCons (tVar i) tNil))) ρ ts g post :=
  gd_xf X hno (gd_mk1 T hno (gs_cons (gd_var hv (gs_nil ⟨d, rfl, im, d, rfl, p⟩))))
theorem q0 {C : Addr} {f : Str} {post : D → List Cell → Prop} (T : OexC K C) (X : XfC K C) (hno : PySem.W.findIn K (.ref C) f = some none) (p : post .none g) : GoD K n (tXfV K f (tMkX C (spI K f) 0 [.non] tNil)) ρ ts g post :=
  gd_xf X hno (gd_mk0 T hno ⟨.none, rfl, p⟩)
def GoodX (K : PySem.W.Frag) (cl : Cl) (fam : Str) (d : D) : Prop := ∃ C bs x w, d = .tuple [x, .str w] ∧ XD C x ∧ L2.ExcC K C ∧ PySem.W.kitOne K (.ref C) (.ref cl.DayError) = some true ∧ KindB K cl C bs ∧ fam.length ≤ 20 ∧ w.length ≤ 20 ∧ Txt.join "" (sel bs) = fam ++ w ++ "+" ∧ okS (fam ++ w ++ "+")
theorem j_NoHouse : Txt.join "" (sel bs_NoHouse) = ("told " : Str) ++ "NoHouse" ++ "+" ∧ okS (("told " : Str) ++ "NoHouse" ++ "+") := ⟨by rw [TL.join_eq]; decide +kernel, by unfold okS; decide +kernel⟩
theorem j_NoCases : Txt.join "" (sel bs_NoCases) = ("told " : Str) ++ "NoCases" ++ "+" ∧ okS (("told " : Str) ++ "NoCases" ++ "+") := ⟨by rw [TL.join_eq]; decide +kernel, by unfold okS; decide +kernel⟩
theorem j_NoPlan : Txt.join "" (sel bs_NoPlan) = ("told " : Str) ++ "NoPlan" ++ "+" ∧ okS (("told " : Str) ++ "NoPlan" ++ "+") := ⟨by rw [TL.join_eq]; decide +kernel, by unfold okS; decide +kernel⟩
theorem j_NoCount : Txt.join "" (sel bs_NoCount) = ("told " : Str) ++ "NoCount" ++ "+" ∧ okS (("told " : Str) ++ "NoCount" ++ "+") := ⟨by rw [TL.join_eq]; decide +kernel, by unfold okS; decide +kernel⟩
theorem j_NoMinutes : Txt.join "" (sel bs_NoMinutes) = ("told " : Str) ++ "NoMinutes" ++ "+" ∧ okS (("told " : Str) ++ "NoMinutes" ++ "+") := ⟨by rw [TL.join_eq]; decide +kernel, by unfold okS; decide +kernel⟩
theorem j_NoLot : Txt.join "" (sel bs_NoLot) = ("told " : Str) ++ "NoLot" ++ "+" ∧ okS (("told " : Str) ++ "NoLot" ++ "+") := ⟨by rw [TL.join_eq]; decide +kernel, by unfold okS; decide +kernel⟩
theorem j_NoRow : Txt.join "" (sel bs_NoRow) = ("told " : Str) ++ "NoRow" ++ "+" ∧ okS (("told " : Str) ++ "NoRow" ++ "+") := ⟨by rw [TL.join_eq]; decide +kernel, by unfold okS; decide +kernel⟩
theorem j_NoText : Txt.join "" (sel bs_NoText) = ("told " : Str) ++ "NoText" ++ "+" ∧ okS (("told " : Str) ++ "NoText" ++ "+") := ⟨by rw [TL.join_eq]; decide +kernel, by unfold okS; decide +kernel⟩
theorem j_TooMany : Txt.join "" (sel bs_TooMany) = ("asked " : Str) ++ "TooMany" ++ "+" ∧ okS (("asked " : Str) ++ "TooMany" ++ "+") := ⟨by rw [TL.join_eq]; decide +kernel, by unfold okS; decide +kernel⟩
theorem j_Crowded : Txt.join "" (sel bs_Crowded) = ("asked " : Str) ++ "Crowded" ++ "+" ∧ okS (("asked " : Str) ++ "Crowded" ++ "+") := ⟨by rw [TL.join_eq]; decide +kernel, by unfold okS; decide +kernel⟩
theorem j_NothingLeft : Txt.join "" (sel bs_NothingLeft) = ("asked " : Str) ++ "NothingLeft" ++ "+" ∧ okS (("asked " : Str) ++ "NothingLeft" ++ "+") := ⟨by rw [TL.join_eq]; decide +kernel, by unfold okS; decide +kernel⟩
theorem j_NoCase : Txt.join "" (sel bs_NoCase) = ("asked " : Str) ++ "NoCase" ++ "+" ∧ okS (("asked " : Str) ++ "NoCase" ++ "+") := ⟨by rw [TL.join_eq]; decide +kernel, by unfold okS; decide +kernel⟩
theorem j_NotNow : Txt.join "" (sel bs_NotNow) = ("asked " : Str) ++ "NotNow" ++ "+" ∧ okS (("asked " : Str) ++ "NotNow" ++ "+") := ⟨by rw [TL.join_eq]; decide +kernel, by unfold okS; decide +kernel⟩
def tD (cl : Cl) (nm : Str) : List D := [.tuple [eD cl.NoHouse, .str "NoHouse"], .tuple [eD cl.NoCases, .str "NoCases"], .tuple [eD cl.NoPlan, .str "NoPlan"], .tuple [eD cl.NoCount, .str "NoCount"], .tuple [eD cl.NoMinutes, .str "NoMinutes"], .tuple [eD cl.NoLot, .str "NoLot"], .tuple [eD cl.NoRow, .str "NoRow"], .tuple [fD cl.NoText "line" .none, .str "NoText"]]
def aD (cl : Cl) (nm : Str) : List D := [.tuple [eD cl.TooMany, .str "TooMany"], .tuple [eD cl.Crowded, .str "Crowded"], .tuple [eD cl.NothingLeft, .str "NothingLeft"], .tuple [fD cl.NoCase "name" (.str nm), .str "NoCase"], .tuple [fD cl.NotNow "name" (.str nm), .str "NotNow"]]
theorem good_tD {cl : Cl} (cf : CF K cl) (nm : Str) : ∀ d ∈ tD cl nm, GoodX K cl "told " d := fun d hd => by
  unfold tD at hd
  simp only [List.mem_cons, List.not_mem_nil, or_false] at hd
  rcases hd with rfl | rfl | rfl | rfl | rfl | rfl | rfl | rfl
  · exact ⟨cl.NoHouse, bs_NoHouse, _, _, rfl, .exc, cf.e_NoHouse, cf.d_NoHouse, cf.b_NoHouse, by decide +kernel, by decide +kernel, j_NoHouse.1, j_NoHouse.2⟩
  · exact ⟨cl.NoCases, bs_NoCases, _, _, rfl, .exc, cf.e_NoCases, cf.d_NoCases, cf.b_NoCases, by decide +kernel, by decide +kernel, j_NoCases.1, j_NoCases.2⟩
  · exact ⟨cl.NoPlan, bs_NoPlan, _, _, rfl, .exc, cf.e_NoPlan, cf.d_NoPlan, cf.b_NoPlan, by decide +kernel, by decide +kernel, j_NoPlan.1, j_NoPlan.2⟩
  · exact ⟨cl.NoCount, bs_NoCount, _, _, rfl, .exc, cf.e_NoCount, cf.d_NoCount, cf.b_NoCount, by decide +kernel, by decide +kernel, j_NoCount.1, j_NoCount.2⟩
  · exact ⟨cl.NoMinutes, bs_NoMinutes, _, _, rfl, .exc, cf.e_NoMinutes, cf.d_NoMinutes, cf.b_NoMinutes, by decide +kernel, by decide +kernel, j_NoMinutes.1, j_NoMinutes.2⟩
  · exact ⟨cl.NoLot, bs_NoLot, _, _, rfl, .exc, cf.e_NoLot, cf.d_NoLot, cf.b_NoLot, by decide +kernel, by decide +kernel, j_NoLot.1, j_NoLot.2⟩
  · exact ⟨cl.NoRow, bs_NoRow, _, _, rfl, .exc, cf.e_NoRow, cf.d_NoRow, cf.b_NoRow, by decide +kernel, by decide +kernel, j_NoRow.1, j_NoRow.2⟩
  · exact ⟨cl.NoText, bs_NoText, _, _, rfl, .exf _ _, cf.e_NoText, cf.d_NoText, cf.b_NoText, by decide +kernel, by decide +kernel, j_NoText.1, j_NoText.2⟩
theorem good_aD {cl : Cl} (cf : CF K cl) (nm : Str) : ∀ d ∈ aD cl nm, GoodX K cl "asked " d := fun d hd => by
  unfold aD at hd
  simp only [List.mem_cons, List.not_mem_nil, or_false] at hd
  rcases hd with rfl | rfl | rfl | rfl | rfl
  · exact ⟨cl.TooMany, bs_TooMany, _, _, rfl, .exc, cf.e_TooMany, cf.d_TooMany, cf.b_TooMany, by decide +kernel, by decide +kernel, j_TooMany.1, j_TooMany.2⟩
  · exact ⟨cl.Crowded, bs_Crowded, _, _, rfl, .exc, cf.e_Crowded, cf.d_Crowded, cf.b_Crowded, by decide +kernel, by decide +kernel, j_Crowded.1, j_Crowded.2⟩
  · exact ⟨cl.NothingLeft, bs_NothingLeft, _, _, rfl, .exc, cf.e_NothingLeft, cf.d_NothingLeft, cf.b_NothingLeft, by decide +kernel, by decide +kernel, j_NothingLeft.1, j_NothingLeft.2⟩
  · exact ⟨cl.NoCase, bs_NoCase, _, _, rfl, .exf _ _, cf.e_NoCase, cf.d_NoCase, cf.b_NoCase, by decide +kernel, by decide +kernel, j_NoCase.1, j_NoCase.2⟩
  · exact ⟨cl.NotNow, bs_NotNow, _, _, rfl, .exf _ _, cf.e_NotNow, cf.d_NotNow, cf.b_NotNow, by decide +kernel, by decide +kernel, j_NotNow.1, j_NotNow.2⟩
def R_law22 : RSpec := fun ss g post => ∃ ns, ss = [.s ns] ∧ g = [] ∧ post (.bool true) []
def t_law22 (cl : Cl) (K : PySem.W.Frag) (wd : PySem.World) : TS := (tSeq (tFor (iRng1 (tCons (tOp (rAddA K) (tC (.int 1)) (tCB rMin2A (tCons (tCB (rLenA K) (tCons (tVar 0) tNil)) (tCons (tC (.int 10)) tNil)))) tNil)) (gName 1) (tSeq (tAsg (tCall (spNew K R_law_bag) [] E0 (tCons (tVar 0) (tCons (tVar 1) tNil))) (gName 2)) (tSeq (tAsg (tOp (rIx K) (tLst (tCons (tCall (spOf K R_law_name) [] E0 (tCons (tVar 2) tNil)) (tCons (tC (.str "")) (tCons (tC (.str "A b")) tNil)))) (tCall (spOf K R_law_take) [] E0 (tCons (tVar 2) (tCons (tC (.int 3)) tNil)))) (gName 3)) (tSeq (tAsg (tOp (rAddA K) (tC (.int 1)) (tCall (spOf K R_law_take) [] E0 (tCons (tVar 2) (tCons (tOp (rI CPow fun i j => V.int (i ^ j.toNat)) (tC (.int 10)) (tC (.int 39))) tNil)))) (gName 4)) (tSeq (tAsg (tLst (tCons (tTup (tCons (tExc1 cl.NoHouse (tC (.str "x"))) (tCons (tC (.str "NoHouse")) tNil))) (tCons (tTup (tCons (tExc1 cl.NoCases (tC (.str "x"))) (tCons (tC (.str "NoCases")) tNil))) (tCons (tTup (tCons (tExc1 cl.NoPlan (tC (.str "x"))) (tCons (tC (.str "NoPlan")) tNil))) tNil)))) (gName 5)) (tSeq (tAsg (tOp (rAddA K) (tVar 5) (tLst (tCons (tTup (tCons (tExc1 cl.NoCount (tC (.str "x"))) (tCons (tC (.str "NoCount")) tNil))) (tCons (tTup (tCons (tExc1 cl.NoMinutes (tC (.str "x"))) (tCons (tC (.str "NoMinutes")) tNil))) (tCons (tTup (tCons (tExc1 cl.NoLot (tC (.str "x"))) (tCons (tC (.str "NoLot")) tNil))) tNil))))) (gName 5)) (tSeq (tAsg (tOp (rAddA K) (tVar 5) (tLst (tCons (tTup (tCons (tExc1 cl.NoRow (tC (.str "x"))) (tCons (tC (.str "NoRow")) tNil))) (tCons (tTup (tCons (tMkX cl.NoText (spI K "line") 0 [.non] tNil) (tCons (tC (.str "NoText")) tNil))) tNil)))) (gName 5)) (tSeq (tAsg (tLst (tCons (tTup (tCons (tExc1 cl.TooMany (tC (.str "x"))) (tCons (tC (.str "TooMany")) tNil))) (tCons (tTup (tCons (tExc1 cl.Crowded (tC (.str "x"))) (tCons (tC (.str "Crowded")) tNil))) (tCons (tTup (tCons (tExc1 cl.NothingLeft (tC (.str "x"))) (tCons (tC (.str "NothingLeft")) tNil))) tNil)))) (gName 6)) (tSeq (tAsg (tOp (rAddA K) (tVar 6) (tLst (tCons (tTup (tCons (tMkX cl.NoCase (spI K "name") 1 [] (tCons (tVar 3) tNil)) (tCons (tC (.str "NoCase")) tNil))) (tCons (tTup (tCons (tMkX cl.NotNow (spI K "name") 1 [] (tCons (tVar 3) tNil)) (tCons (tC (.str "NotNow")) tNil))) tNil)))) (gName 6)) (tSeq (tFor (iList K (tLst (tCons (tTup (tCons (tC (.str "told ")) (tCons (tVar 5) tNil))) (tCons (tTup (tCons (tC (.str "asked ")) (tCons (tVar 6) tNil))) tNil)))) (gTup K 2 (gCons (gName 7) (gCons (gName 8) gNil))) (tFor (iList K (tVar 8)) (gTup K 2 (gCons (gName 9) (gCons (gName 10) gNil))) (tIfS (tOr (tNot (tB (tCB (rIsX K) (tCons (tVar 9) (tCons (tC (.ref cl.DayError)) tNil))))) (tTest (tOp (rNeD K) (tCall (spOf K (R_law_kinds K cl)) [] E0 (tCons (tVar 9) tNil)) (tOp rAddS (tOp rAddS (tVar 7) (tVar 10)) (tC (.str "+")))))) (tRet (tC (.bl false))) tNext))) (tSeq (tIfS (tTest (tOp (rNeD K) (tLst (tCons (tXfV K "name" (tMkX cl.NoCase (spI K "name") 1 [] (tCons (tVar 3) tNil))) (tCons (tXfV K "name" (tMkX cl.NotNow (spI K "name") 1 [] (tCons (tVar 3) tNil))) (tCons (tXfV K "name" (tMkX cl.NoCase (spI K "name") 1 [] (tCons (tVar 3) tNil))) tNil)))) (tOp rRep (tLst (tCons (tVar 3) tNil)) (tC (.int 3))))) (tRet (tC (.bl false))) tNext) (tIfS (tOr (tTest (tOp rNotN0 (tXfV K "line" (tMkX cl.NoText (spI K "line") 0 [.non] tNil)) (tC .non))) (tOr (tTest (tOp (rNeD K) (tXfV K "line" (tMkX cl.NoText (spI K "line") 1 [] (tCons (tVar 4) tNil))) (tVar 4))) (tTest (tOp (rNeD K) (tXfV K "line" (tMkX cl.NoText (spI K "line") 1 [] (tCons (tVar 4) tNil))) (tVar 4))))) (tRet (tC (.bl false))) tNext)))))))))))) (tRet (tC (.bl true))))
theorem eqvL (nm : Str) : PyData.eqv (.list [.str nm, .str nm, .str nm]) (.list [.str nm, .str nm, .str nm]) = true := by simp [PyData.eqv, PyData.eqvAll]
theorem shL {nm : Str} (h : okS nm) : SeqAt.shaped (.list [.str nm, .str nm, .str nm]) = true := by
  have h' : PyData.strOk nm = true := by
    unfold okS PyData.canLay0 at h
    exact h
  simp [SeqAt.shaped, PyData.canLay0, PyData.canLayAll0, PyData.depth, PyData.depthAll, h']
theorem shI (m : Int) : SeqAt.shaped (.int m) = true := by simp [SeqAt.shaped, PyData.canLay0, PyData.depth]
theorem go_law22 {cl : Cl} (cf : CF K cl) (ss : List SV) (g : List Cell) (post : D → List Cell → Prop) (h : R_law22 ss g post) : GoS K g.length (t_law22 cl K wd) (ss ++ List.replicate (11 - ss.length) .no) g (KF g.length post) := by
  obtain ⟨ns, rfl, rfl, p⟩ := h
  unfold t_law22
  refine gs_seq (gs_for (gi_rng1 ?_))
  (repeat (walk_at "g"))
  have hle : (if (10 : Int) < (ns.length : Int) then 10 else (ns.length : Int)) ≤ 10 ∧ 0 ≤ (if (10 : Int) < (ns.length : Int) then 10 else (ns.length : Int)) := by split <;> omega
  refine ⟨by omega, by omega, ?_⟩
  refine ⟨fun i ρ g => ∃ x1 x2 x3 x4 x5 x6 x7 x8 x9 x10 : SV, ρ = [.s ns, x1, x2, x3, x4, x5, x6, x7, x8, x9, x10] ∧ g = [], ⟨.no, .no, .no, .no, .no, .no, .no, .no, .no, .no, rfl, rfl⟩, fun k d ρ' g' hi ⟨x1, x2, x3, x4, x5, x6, x7, x8, x9, x10, e1, e2⟩ _ => ?_, fun ρ' g' ⟨x1, x2, x3, x4, x5, x6, x7, x8, x9, x10, e1, e2⟩ _ => ?_⟩
  · subst e1 e2
    obtain ⟨rfl, lkk⟩ := rng_at hi
    refine gg_name (gs_seq (gs_asg (ge_callN (ga_cons (ge_var rfl (fun z => nomatch z) (ga_cons (ge_var rfl (fun z => nomatch z) (ga_nil ⟨noC2, ns, k, rfl, by omega, fun b hb => ?_⟩))))))))
    have hnm : ∀ q : D → List Cell → Prop, (∀ nm b', okS nm → Bag b' → q (.str nm) [some b']) → GoD K 0 (tOp (rIx K) (tLst (tCons (tCall (spOf K R_law_name) [] E0 (tCons (tVar 2) tNil)) (tCons (tC (.str "")) (tCons (tC (.str "A b")) tNil)))) (tCall (spOf K R_law_take) [] E0 (tCons (tVar 2) (tCons (tC (.int 3)) tNil)))) [.s ns, .d (.int (k : Int)), .c 0, x3, x4, x5, x6, x7, x8, x9, x10] [] [some b] q := by
      intro q hq
      refine gd_op (gd_lst (gs_cons (gd_bag rfl (gs_nil ⟨b, rfl, b, rfl, rfl, hb, fun x b1 hx hb1 => ⟨b1, rfl, gs_cons (gd_str (gs_cons (gd_str (gs_nil ⟨(by show 3 ≤ 100000; decide), gd_takeC rfl hb1 (by decide) fun m b2 h1 h2 hb2 => ?_⟩))))⟩⟩))))
      have : m = 0 ∨ m = 1 ∨ m = 2 := by omega
      rcases this with rfl | rfl | rfl
      · exact opd_ixL (d := .str x) rfl (hq _ _ hx hb2)
      · exact opd_ixL (d := .str "") rfl (hq _ _ ok_empty hb2)
      · exact opd_ixL (d := .str "A b") rfl (hq _ _ (by unfold okS; decide +kernel) hb2)
    refine gs_seq (gs_asgD (hnm _ fun nm b1 okn hb1 => ?_))
    refine gs_seq (gs_asgD (gd_op (gd_int (gd_take rfl (gd_op (gd_int (gd_int (opd_pow ⟨by decide, by decide, by decide⟩ ⟨_, b1, rfl, rfl, hb1, by decide, by decide, fun m b2 _ _ hb2 => opd_addI ?_⟩))))))))
    refine gs_seq (gs_asgD (gd_lst (gs_cons (pX (gs_cons (pX (gs_cons (pX (gs_nil ⟨(by show 3 ≤ 100000; decide), ?_⟩)))))))))
    refine gs_seq (gs_asgD (gd_op (gd_var rfl (gd_lst (gs_cons (pX (gs_cons (pX (gs_cons (pX (gs_nil ⟨(by show 3 ≤ 100000; decide), opd_addL (by show 6 ≤ 100000; decide) ?_⟩)))))))))))
    refine gs_seq (gs_asgD (gd_op (gd_var rfl (gd_lst (gs_cons (pX (gs_cons (p0 cf.o_NoText cf.f_NoText (gs_nil ⟨(by show 2 ≤ 100000; decide), opd_addL (by show 8 ≤ 100000; decide) ?_⟩)))))))))
    refine gs_seq (gs_asgD (gd_lst (gs_cons (pX (gs_cons (pX (gs_cons (pX (gs_nil ⟨(by show 3 ≤ 100000; decide), ?_⟩)))))))))
    refine gs_seq (gs_asgD (gd_op (gd_var rfl (gd_lst (gs_cons (p1 cf.o_NoCase cf.f_NoCase rfl rfl (gs_cons (p1 cf.o_NotNow cf.f_NotNow rfl rfl (gs_nil ⟨(by show 2 ≤ 100000; decide), opd_addL (by show 5 ≤ 100000; decide) ?_⟩)))))))))
    refine gs_seq (gs_for (gi_list (gd_lst (gs_cons (gd_tup (gs_cons (gd_str (gs_cons (gd_var rfl (gs_nil ⟨(by show 2 ≤ 100000; decide), gs_cons (gd_tup (gs_cons (gd_str (gs_cons (gd_var rfl (gs_nil ⟨(by show 2 ≤ 100000; decide), gs_nil ⟨(by show 2 ≤ 100000; decide), _, rfl, ?_⟩⟩))))))⟩))))))))))
    have all : ∀ d ∈ [PyData.tuple [.str "told ", .list (tD cl nm)], .tuple [.str "asked ", .list (aD cl nm)]], ∃ fam ds, d = .tuple [.str fam, .list ds] ∧ ∀ e ∈ ds, GoodX K cl fam e := fun d hd => by
      have hd' : d = .tuple [.str "told ", .list (tD cl nm)] ∨ d = .tuple [.str "asked ", .list (aD cl nm)] := by simpa using hd
      rcases hd' with rfl | rfl
      · exact ⟨_, _, rfl, good_tD cf nm⟩
      · exact ⟨_, _, rfl, good_aD cf nm⟩
    refine ⟨fun i ρ g => ∃ (x7 x8 x9 x10 : SV), ρ = [.s ns, .d (.int (k : Int)), .c 0, .d (.str nm), .d (.int (1 + m)), .d (.list (tD cl nm)), .d (.list (aD cl nm)), x7, x8, x9, x10] ∧ g = [some b2], ⟨_, _, _, _, rfl, rfl⟩, fun i d ρ' g' hi ⟨x7, x8, x9, x10, e1, e2⟩ _ => ?_, fun ρ' g' ⟨x7, x8, x9, x10, e1, e2⟩ _ => ?_⟩
    · subst e1 e2
      obtain ⟨fam, ds, rfl, gd⟩ := all d (List.mem_of_getElem? hi)
      refine gg2 (gs_for (gi_list (gd_var rfl ⟨ds, rfl, ?_⟩)))
      refine ⟨fun i ρ g => ∃ (x9 x10 : SV), ρ = [.s ns, .d (.int (k : Int)), .c 0, .d (.str nm), .d (.int (1 + m)), .d (.list (tD cl nm)), .d (.list (aD cl nm)), .d (.str fam), .d (.list ds), x9, x10] ∧ g = [some b2], ⟨_, _, rfl, rfl⟩, fun i d ρ' g' hi ⟨x9, x10, e1, e2⟩ _ => ?_, fun ρ' g' ⟨x9, x10, e1, e2⟩ _ => ?_⟩
      · subst e1 e2
        obtain ⟨C, bs, x, w, rfl, hx, T, hd, hk, l1, l2, ej, ok⟩ := gd d (List.mem_of_getElem? hi)
        refine gg2 (gs_if (gt_or (gt_not (gt_B (gx rfl hx T hd ⟨true, rfl, fun _ => ?_, fun z => nomatch z⟩)))))
        refine gt_test (gd_op (gd_call (gs_cons (gd_var rfl (gs_nil ⟨x, C, bs, rfl, rfl, hx, T, hk, ?_⟩)))))
        rw [ej]
        refine gd_op (gd_op (gd_var rfl (gd_var rfl (opd_addS (by omega) (gd_str (opd_addS ?_ (opd_ne (shS ok) (shS ok) ⟨_, rfl, fun z => ?_, fun _ => gs_next ⟨_, _, rfl, rfl⟩⟩)))))))
        · have : (fam ++ w).length = fam.length + w.length := by
            show (fam.cps ++ w.cps).size = _
            rw [Array.size_append]
            rfl
          rw [this]
          show _ + 1 ≤ _
          omega
        · rw [eqv_str, decide_eq_true rfl] at z
          cases z
      · subst e1 e2
        exact ⟨_, _, _, _, rfl, rfl⟩
    · subst e1 e2
      refine gs_seq (gs_if (gt_test (gd_op (gd_lst (gs_cons (q1 cf.o_NoCase cf.g_NoCase cf.f_NoCase rfl rfl (gs_cons (q1 cf.o_NotNow cf.g_NotNow cf.f_NotNow rfl rfl (gs_cons (q1 cf.o_NoCase cf.g_NoCase cf.f_NoCase rfl rfl (gs_nil ⟨(by show 3 ≤ 100000; decide), ?_⟩)))))))))))
      refine gd_rep (ge_lstC (gs_cons (gd_var rfl (gs_nil ⟨(by show 1 ≤ 100000; decide), 1, rfl, gd_int ⟨3, _, rfl, rfl, (by show 3 ≤ 100000; decide), (by decide), ?_⟩⟩))))
      refine opd_ne (shL okn) (shL okn) ⟨_, rfl, fun z => absurd (show (!PyData.eqv (.list [.str nm, .str nm, .str nm]) (.list [.str nm, .str nm, .str nm])) = true from z) (by rw [eqvL]; decide), fun _ => gs_next ?_⟩
      refine gs_if (gt_or (gt_test (gd_op (q0 cf.o_NoText cf.g_NoText cf.f_NoText (gd_non (opd_notN rfl ⟨_, rfl, fun _ => ?_, fun z => nomatch z⟩))))))
      refine gt_or (gt_test (gd_op (q1 cf.o_NoText cf.g_NoText cf.f_NoText rfl rfl (gd_var rfl (opd_ne (shI _) (shI _) ⟨_, rfl, fun _ => ?_, fun z => ?_⟩)))))
      · refine gt_test (gd_op (q1 cf.o_NoText cf.g_NoText cf.f_NoText rfl rfl (gd_var rfl (opd_ne (shI _) (shI _) ⟨_, rfl, fun z => ?_, fun _ => gs_next ⟨_, _, _, _, _, _, _, _, _, _, rfl, rfl⟩⟩))))
        simp [PyData.eqv] at z
      · simp [PyData.eqv] at z
  · subst e1 e2
    exact gs_ret (gd_bl ⟨_, rfl, p⟩)
end
end Go
namespace K22
open PySem PySem.Spec PyProof.Rows L2 SetMix ZipE Go ExcA
def topS (i : Nat) : Stmt := PySem.Challenge.pw_roomsday_k22_refusals_apart.main.body.getD i (.Pass ⟨0, 0, 0, 0⟩)
abbrev s__law_bag : Stmt := topS 20
abbrev N__law_bag : List Str := ["script", "k", "cell"]
theorem sc__law_bag : FnScope N__law_bag ["script", "k"] (defScope s__law_bag) := ⟨rfl, rfl, rfl, by decide +kernel, rfl, by decide +kernel, by decide +kernel⟩
abbrev s__law_take : Stmt := topS 21
abbrev N__law_take : List Str := ["bag", "many", "found"]
theorem sc__law_take : FnScope N__law_take ["bag", "many"] (defScope s__law_take) := ⟨rfl, rfl, rfl, by decide +kernel, rfl, by decide +kernel, by decide +kernel⟩
abbrev s__law_name : Stmt := topS 22
abbrev N__law_name : List Str := ["bag", "many", "k"]
theorem sc__law_name : FnScope N__law_name ["bag"] (defScope s__law_name) := ⟨rfl, rfl, rfl, by decide +kernel, rfl, by decide +kernel, by decide +kernel⟩
abbrev s_copied : Stmt := topS 1
abbrev N_copied : List Str := ["thing", "part"]
theorem sc_copied : FnScope N_copied ["thing"] (defScope s_copied) := ⟨rfl, rfl, rfl, by decide +kernel, rfl, by decide +kernel, by decide +kernel⟩
abbrev s__law_kinds : Stmt := topS 23
abbrev N__law_kinds : List Str := ["e", "some", "words", "k"]
theorem sc__law_kinds : FnScope N__law_kinds ["e"] (defScope s__law_kinds) := ⟨rfl, rfl, rfl, by decide +kernel, rfl, by decide +kernel, by decide +kernel⟩
abbrev s_law : Stmt := topS 24
abbrev N_law : List Str := ["script", "k", "bag", "nam1", "many", "told", "others", "family", "pairs", "e", "word"]
theorem sc_law : FnScope N_law ["script"] (defScope s_law) := ⟨rfl, rfl, rfl, by decide +kernel, rfl, by decide +kernel, by decide +kernel⟩
abbrev s_i_NoText : Stmt := inClass (topS 12) 0
abbrev N_i_NoText : List Str := ["self", "line"]
theorem sc_i_NoText : FnScope N_i_NoText ["self", "line"] (defScope s_i_NoText) := ⟨rfl, rfl, rfl, by decide +kernel, rfl, by decide +kernel, by decide +kernel⟩
abbrev s_i_NoCase : Stmt := inClass (topS 14) 0
abbrev N_i_NoCase : List Str := ["self", "name"]
theorem sc_i_NoCase : FnScope N_i_NoCase ["self", "name"] (defScope s_i_NoCase) := ⟨rfl, rfl, rfl, by decide +kernel, rfl, by decide +kernel, by decide +kernel⟩
abbrev s_i_NotNow : Stmt := inClass (topS 15) 0
abbrev N_i_NotNow : List Str := ["self", "name"]
theorem sc_i_NotNow : FnScope N_i_NotNow ["self", "name"] (defScope s_i_NotNow) := ⟨rfl, rfl, rfl, by decide +kernel, rfl, by decide +kernel, by decide +kernel⟩
structure Txt (K : PySem.W.Frag) (mg : Str → Option Value) where
  a__law_bag : Addr
  fd__law_bag : FuncData
  F__law_bag : Fun K "_law_bag" "_law_bag" s__law_bag a__law_bag fd__law_bag
  m__law_bag : mg "_law_bag" = some (.ref a__law_bag)
  b__law_bag : Binds K fd__law_bag ["script", "k"] []
  a__law_take : Addr
  fd__law_take : FuncData
  F__law_take : Fun K "_law_take" "_law_take" s__law_take a__law_take fd__law_take
  m__law_take : mg "_law_take" = some (.ref a__law_take)
  b__law_take : Binds K fd__law_take ["bag", "many"] []
  a__law_name : Addr
  fd__law_name : FuncData
  F__law_name : Fun K "_law_name" "_law_name" s__law_name a__law_name fd__law_name
  m__law_name : mg "_law_name" = some (.ref a__law_name)
  b__law_name : Binds K fd__law_name ["bag"] []
  a_copied : Addr
  fd_copied : FuncData
  F_copied : Fun K "copied" "copied" s_copied a_copied fd_copied
  m_copied : mg "copied" = some (.ref a_copied)
  b_copied : Binds K fd_copied ["thing"] []
  a__law_kinds : Addr
  fd__law_kinds : FuncData
  F__law_kinds : Fun K "_law_kinds" "_law_kinds" s__law_kinds a__law_kinds fd__law_kinds
  m__law_kinds : mg "_law_kinds" = some (.ref a__law_kinds)
  b__law_kinds : Binds K fd__law_kinds ["e"] []
  a_law : Addr
  fd_law : FuncData
  F_law : Fun K "law" "law" s_law a_law fd_law
  m_law : mg "law" = some (.ref a_law)
  b_law : Binds K fd_law ["script"] []
  cl : Cl
  cf : CF K cl
  n_AskedError : mg "AskedError" = some (.ref cl.AskedError)
  n_Crowded : mg "Crowded" = some (.ref cl.Crowded)
  n_DayError : mg "DayError" = some (.ref cl.DayError)
  n_NoCase : mg "NoCase" = some (.ref cl.NoCase)
  n_NoCases : mg "NoCases" = some (.ref cl.NoCases)
  n_NoCount : mg "NoCount" = some (.ref cl.NoCount)
  n_NoHouse : mg "NoHouse" = some (.ref cl.NoHouse)
  n_NoLot : mg "NoLot" = some (.ref cl.NoLot)
  n_NoMinutes : mg "NoMinutes" = some (.ref cl.NoMinutes)
  n_NoPlan : mg "NoPlan" = some (.ref cl.NoPlan)
  n_NoRow : mg "NoRow" = some (.ref cl.NoRow)
  n_NoText : mg "NoText" = some (.ref cl.NoText)
  n_NotNow : mg "NotNow" = some (.ref cl.NotNow)
  n_NothingLeft : mg "NothingLeft" = some (.ref cl.NothingLeft)
  n_ToldError : mg "ToldError" = some (.ref cl.ToldError)
  n_TooMany : mg "TooMany" = some (.ref cl.TooMany)
  fi_NoText : Addr
  fdi_NoText : FuncData
  Fi_NoText : FunD K "__init__" "NoText.__init__" (defArgs s_i_NoText) (defBody s_i_NoText) (defScope s_i_NoText) [.non] [] fi_NoText fdi_NoText
  i_NoText : ExcA.IniC K cl.NoText fi_NoText
  bi_NoText : Binds K fdi_NoText ["self", "line"] []
  qi_NoText_0 : ExcA.KwM K fdi_NoText ["self", "line"] [] [.none]
  qi_NoText_1 : ExcA.KwM K fdi_NoText ["self", "line"] ["line"] []
  fi_NoCase : Addr
  fdi_NoCase : FuncData
  Fi_NoCase : Fun K "__init__" "NoCase.__init__" s_i_NoCase fi_NoCase fdi_NoCase
  i_NoCase : ExcA.IniC K cl.NoCase fi_NoCase
  bi_NoCase : Binds K fdi_NoCase ["self", "name"] []
  qi_NoCase_1 : ExcA.KwM K fdi_NoCase ["self", "name"] ["name"] []
  fi_NotNow : Addr
  fdi_NotNow : FuncData
  Fi_NotNow : Fun K "__init__" "NotNow.__init__" s_i_NotNow fi_NotNow fdi_NotNow
  i_NotNow : ExcA.IniC K cl.NotNow fi_NotNow
  bi_NotNow : Binds K fdi_NotNow ["self", "name"] []
  qi_NotNow_1 : ExcA.KwM K fdi_NotNow ["self", "name"] ["name"] []
  z_ValueError : mg "ValueError" = none
  z_abs : mg "abs" = none
  z_int : mg "int" = none
  z_isinstance : mg "isinstance" = none
  z_len : mg "len" = none
  z_list : mg "list" = none
  z_min : mg "min" = none
  z_range : mg "range" = none
  z_tuple : mg "tuple" = none
section
variable {P : Program} {w : PySem.World} {K : PySem.W.Frag} {mg : Str → Option Value} {base : Heap}
theorem ok__law_bag (T : Txt K mg) : FnOk P w K mg base CX0 1 T.a__law_bag T.fd__law_bag ["script", "k"] (spNew K R_law_bag) :=
  fn_goN (t := t_law_bag K w) T.F__law_bag sc__law_bag (fun ss post h => by first | (obtain ⟨_, rfl, _⟩ := h; rfl) | (obtain ⟨_, _, rfl, _⟩ := h; rfl) | (obtain ⟨_, _, _, rfl, _⟩ := h; rfl) | (obtain ⟨_, _, _, _, rfl, _⟩ := h; rfl) | (obtain ⟨_, _, _, _, _, rfl, _⟩ := h; rfl))
    (fun cdv A outer s H E hr => (pss_cons (ps_set (i := 2) sc__law_bag.nd rfl (by first | exact .inl rfl | exact .inr rfl) pe_int) (pss_cons (ps_if (pt_cmpR op_lt (pv 1) (pe_callB call_lenA (by rfl) T.z_len bt_len (pa_cons (pv 0) pa_nil)) (nomark _)) (pss_one (ps_set (i := 2) sc__law_bag.nd rfl (by first | exact .inl rfl | exact .inr rfl) (pe_callB call_absA (by rfl) T.z_abs bt_abs (pa_cons (pe_ix ix_seq (pv 0) (pv 1) (fun _ _ => rfl)) pa_nil)))) pss_nil) (pss_cons (ps_if (pt_cmpR op_lt (pv 2) (pe_op op_pow pe_int pe_int) (nomark _)) (pss_one (ps_ret (pe_lst (pa_cons pe_int (pa_cons (pe_op op_addA pe_int (pe_op op_mod (pe_op op_addA (pe_op op_mulW (pv 2) pe_int) (pe_op op_mulW pe_int (pv 1))) pe_int)) pa_nil))))) pss_nil) (pss_one (ps_ret (pe_lst (pa_cons (pv 2) (pa_cons (pe_op op_addA pe_int (pe_op op_mod (pe_op op_addA (pv 2) (pv 1)) pe_int)) pa_nil)))))))))
    go_law_bag
theorem ok__law_take (T : Txt K mg) : FnOk P w K mg base CX0 1 T.a__law_take T.fd__law_take ["bag", "many"] (spOf K R_law_take) :=
  fn_go (t := t_law_take K w) T.F__law_take sc__law_take (fun ss g post h => by first | (obtain ⟨_, rfl, _⟩ := h; rfl) | (obtain ⟨_, _, rfl, _⟩ := h; rfl) | (obtain ⟨_, _, _, rfl, _⟩ := h; rfl) | (obtain ⟨_, _, _, _, rfl, _⟩ := h; rfl) | (obtain ⟨_, _, _, _, _, rfl, _⟩ := h; rfl))
    (fun cdv A outer s H E hr => (pss_cons (ps_if (pt_cmpR op_gt (pe_ix ix_seq (pv 0) pe_int (fun _ _ => rfl)) pe_int (nomark _)) (pss_cons (ps_set (i := 2) sc__law_take.nd rfl (by first | exact .inl rfl | exact .inr rfl) (pe_op op_mod (pe_ix ix_seq (pv 0) pe_int (fun _ _ => rfl)) (pv 1))) (pss_cons (ps_asg (pe_op op_fdivW (pe_ix ix_seq (pv 0) pe_int (fun _ _ => rfl)) (pv 1)) (pg_sub (pv 0) pe_int set_list)) (pss_one (ps_ret (pv 2))))) pss_nil) (pss_cons (ps_asg (pe_op op_mod (pe_op op_mulW (pe_ix ix_seq (pv 0) pe_int (fun _ _ => rfl)) pe_int) pe_int) (pg_sub (pv 0) pe_int set_list)) (pss_one (ps_ret (pe_op op_mod (pe_op op_fdivW (pe_op op_mod (pe_op op_mulW (pe_ix ix_seq (pv 0) pe_int (fun _ _ => rfl)) (pe_ix ix_seq (pv 0) pe_int (fun _ _ => rfl))) pe_int) pe_int) (pv 1)))))))
    go_law_take
theorem ok__law_name (T : Txt K mg) : FnOk P w K mg base CX0 2 T.a__law_name T.fd__law_name ["bag"] (spOf K R_law_name) :=
  fn_go (t := t_law_name K w) T.F__law_name sc__law_name (fun ss g post h => by first | (obtain ⟨_, rfl, _⟩ := h; rfl) | (obtain ⟨_, _, rfl, _⟩ := h; rfl) | (obtain ⟨_, _, _, rfl, _⟩ := h; rfl) | (obtain ⟨_, _, _, _, rfl, _⟩ := h; rfl) | (obtain ⟨_, _, _, _, _, rfl, _⟩ := h; rfl))
    (fun cdv A outer s H E hr => (pss_cons (ps_set (i := 1) sc__law_name.nd rfl (by first | exact .inl rfl | exact .inr rfl) (pe_op op_addA pe_int (pe_ix ix_seq (pe_lst (pa_cons (pe_call (ok__law_take T) (hr.mono (by decide)) (by rfl) T.m__law_take T.F__law_take.kp T.b__law_take .nil pass0 (pa_cons (pv 0) (pa_cons pe_int pa_nil))) (pa_cons (pe_call (ok__law_take T) (hr.mono (by decide)) (by rfl) T.m__law_take T.F__law_take.kp T.b__law_take .nil pass0 (pa_cons (pv 0) (pa_cons pe_int pa_nil))) pa_nil))) (pe_callTy call_intA (by rfl) T.z_int bt_int (pa_cons (pe_cmpR (op_eqD hr.units) (pe_call (ok__law_take T) (hr.mono (by decide)) (by rfl) T.m__law_take T.F__law_take.kp T.b__law_take .nil pass0 (pa_cons (pv 0) (pa_cons pe_int pa_nil))) pe_int (nomark _)) pa_nil)) (fun _ _ => rfl)))) (pss_one (ps_ret (pe_join pe_str (pe_lc (own := [("k", 2)]) (g := (gName 2)) (tt := tYes) rfl sc__law_name.nd (pi_range1 (by rfl) T.z_range (pa_cons (pv 1) pa_nil)) (blkOk_by (N := N__law_name) (sc := defScope s__law_name) (by decide +kernel)) (fun _ _ _ _ _ => (pg_name (i := 2) sc__law_name.nd rfl (by first | exact .inl rfl | exact .inr rfl))) (fun _ _ _ _ _ => pts_nil) (fun _ _ _ _ _ => (pe_ix ix_seq pe_str (pe_call (ok__law_take T) (hr.mono (by decide)) (by rfl) T.m__law_take T.F__law_take.kp T.b__law_take .nil pass0 (pa_cons (pv 0) (pa_cons pe_int pa_nil))) (fun _ _ => rfl)))))))))
    go_law_name
theorem ok_copied (T : Txt K mg) : FnOk P w K mg base CX0 1 T.a_copied T.fd_copied ["thing"] (spOf K Rcopied) :=
  fn_go (t := tcopied K w) T.F_copied sc_copied (fun ss g post h => by first | (obtain ⟨_, rfl, _⟩ := h; rfl) | (obtain ⟨_, _, rfl, _⟩ := h; rfl) | (obtain ⟨_, _, _, rfl, _⟩ := h; rfl) | (obtain ⟨_, _, _, _, rfl, _⟩ := h; rfl) | (obtain ⟨_, _, _, _, _, rfl, _⟩ := h; rfl))
    (fun cdv A outer s H E hr => (pss_cons (ps_if (pt_val (pe_callB call_isi (by rfl) T.z_isinstance bt_isinstance (pa_cons (pv 0) (pa_cons (pe_bltn (v := .ty "list") (by rfl) T.z_list bt_list rfl) pa_nil)))) (pss_one Go.ps_never) pss_nil) (pss_cons (ps_if (pt_val (pe_callB call_isi (by rfl) T.z_isinstance bt_isinstance (pa_cons (pv 0) (pa_cons (pe_bltn (v := .ty "tuple") (by rfl) T.z_tuple bt_tuple rfl) pa_nil)))) (pss_one Go.ps_never) pss_nil) (pss_one (ps_ret (pv 0))))))
    go_copied
theorem ok__law_kinds (T : Txt K mg) : FnOk P w K mg base CX0 1 T.a__law_kinds T.fd__law_kinds ["e"] (spOf K (R_law_kinds K T.cl)) :=
  fn_go (t := t_law_kinds T.cl K w) T.F__law_kinds sc__law_kinds (fun ss g post h => by first | (obtain ⟨_, rfl, _⟩ := h; rfl) | (obtain ⟨_, _, rfl, _⟩ := h; rfl) | (obtain ⟨_, _, _, rfl, _⟩ := h; rfl) | (obtain ⟨_, _, _, _, rfl, _⟩ := h; rfl) | (obtain ⟨_, _, _, _, _, rfl, _⟩ := h; rfl))
    (fun cdv A outer s H E hr => (pss_cons (ps_set (i := 1) sc__law_kinds.nd rfl (by first | exact .inl rfl | exact .inr rfl) (pe_lst (pa_cons (pe_callB call_isX (by rfl) T.z_isinstance bt_isinstance (pa_cons (pv 0) (pa_cons (pe_glob (by rfl) T.n_AskedError rfl) pa_nil))) (pa_cons (pe_callB call_isX (by rfl) T.z_isinstance bt_isinstance (pa_cons (pv 0) (pa_cons (pe_glob (by rfl) T.n_ToldError rfl) pa_nil))) (pa_cons (pe_callB call_isX (by rfl) T.z_isinstance bt_isinstance (pa_cons (pv 0) (pa_cons (pe_glob (by rfl) T.n_Crowded rfl) pa_nil))) (pa_cons (pe_callB call_isX (by rfl) T.z_isinstance bt_isinstance (pa_cons (pv 0) (pa_cons (pe_glob (by rfl) T.n_NoCase rfl) pa_nil))) pa_nil)))))) (pss_cons (ps_set (i := 1) sc__law_kinds.nd rfl (by first | exact .inl rfl | exact .inr rfl) (pe_op op_addA (pv 1) (pe_lst (pa_cons (pe_callB call_isX (by rfl) T.z_isinstance bt_isinstance (pa_cons (pv 0) (pa_cons (pe_glob (by rfl) T.n_NoCases rfl) pa_nil))) (pa_cons (pe_callB call_isX (by rfl) T.z_isinstance bt_isinstance (pa_cons (pv 0) (pa_cons (pe_glob (by rfl) T.n_NoCount rfl) pa_nil))) (pa_cons (pe_callB call_isX (by rfl) T.z_isinstance bt_isinstance (pa_cons (pv 0) (pa_cons (pe_glob (by rfl) T.n_NoHouse rfl) pa_nil))) (pa_cons (pe_callB call_isX (by rfl) T.z_isinstance bt_isinstance (pa_cons (pv 0) (pa_cons (pe_glob (by rfl) T.n_NoLot rfl) pa_nil))) pa_nil))))))) (pss_cons (ps_set (i := 1) sc__law_kinds.nd rfl (by first | exact .inl rfl | exact .inr rfl) (pe_op op_addA (pv 1) (pe_lst (pa_cons (pe_callB call_isX (by rfl) T.z_isinstance bt_isinstance (pa_cons (pv 0) (pa_cons (pe_glob (by rfl) T.n_NoMinutes rfl) pa_nil))) (pa_cons (pe_callB call_isX (by rfl) T.z_isinstance bt_isinstance (pa_cons (pv 0) (pa_cons (pe_glob (by rfl) T.n_NoPlan rfl) pa_nil))) (pa_cons (pe_callB call_isX (by rfl) T.z_isinstance bt_isinstance (pa_cons (pv 0) (pa_cons (pe_glob (by rfl) T.n_NoRow rfl) pa_nil))) (pa_cons (pe_callB call_isX (by rfl) T.z_isinstance bt_isinstance (pa_cons (pv 0) (pa_cons (pe_glob (by rfl) T.n_NoText rfl) pa_nil))) pa_nil))))))) (pss_cons (ps_set (i := 1) sc__law_kinds.nd rfl (by first | exact .inl rfl | exact .inr rfl) (pe_op op_addA (pv 1) (pe_lst (pa_cons (pe_callB call_isX (by rfl) T.z_isinstance bt_isinstance (pa_cons (pv 0) (pa_cons (pe_glob (by rfl) T.n_NotNow rfl) pa_nil))) (pa_cons (pe_callB call_isX (by rfl) T.z_isinstance bt_isinstance (pa_cons (pv 0) (pa_cons (pe_glob (by rfl) T.n_NothingLeft rfl) pa_nil))) (pa_cons (pe_callB call_isX (by rfl) T.z_isinstance bt_isinstance (pa_cons (pv 0) (pa_cons (pe_glob (by rfl) T.n_TooMany rfl) pa_nil))) pa_nil)))))) (pss_cons (ps_expr (pe_bm PySem.F.plainAttrs_list PySem.F.slot_list_append PySem.F.type_list_append mt_append (pv 1) (pa_cons (pe_callB call_isX (by rfl) T.z_isinstance bt_isinstance (pa_cons (pv 0) (pa_cons (pe_bltn (v := .ty "ValueError") (by rfl) T.z_ValueError bt_ValueError rfl) pa_nil))) pa_nil))) (pss_cons (ps_set (i := 2) sc__law_kinds.nd rfl (by first | exact .inl rfl | exact .inr rfl) (pe_lst (pa_cons pe_str (pa_cons pe_str (pa_cons pe_str (pa_cons pe_str (pa_cons pe_str (pa_cons pe_str (pa_cons pe_str (pa_cons pe_str (pa_cons pe_str (pa_cons pe_str pa_nil)))))))))))) (pss_cons (ps_set (i := 2) sc__law_kinds.nd rfl (by first | exact .inl rfl | exact .inr rfl) (pe_op op_addA (pv 2) (pe_lst (pa_cons pe_str (pa_cons pe_str (pa_cons pe_str (pa_cons pe_str (pa_cons pe_str (pa_cons pe_str pa_nil))))))))) (pss_one (ps_ret (pe_join pe_str (pe_lc (own := [("k", 3)]) (g := (gName 3)) (tt := (tB (tOp (rIx K) (tVar 1) (tVar 3)))) rfl sc__law_kinds.nd (pi_range1 (by rfl) T.z_range (pa_cons pe_int pa_nil)) (blkOk_by (N := N__law_kinds) (sc := defScope s__law_kinds) (by decide +kernel)) (fun _ _ _ _ _ => (pg_name (i := 3) sc__law_kinds.nd rfl (by first | exact .inl rfl | exact .inr rfl))) (fun _ _ _ _ _ => (pts_one (pt_val (pe_ix ix_seq (pv 1) (pv 3) (fun _ _ => rfl))))) (fun _ _ _ _ _ => (pe_ix ix_seq (pv 2) (pv 3) (fun _ _ => rfl)))))))))))))))
    (go_law_kinds T.cf)
theorem oki_NoText (T : Txt K mg) : FnOk P w K mg base CX0 1 T.fi_NoText T.fdi_NoText ["self", "line"] (spI K "line") :=
  T.Fi_NoText.ok (CX := CX0) sc_i_NoText (fun vs H Q E h => spI_len h) (fun cdv A outer s H vs Q E hr h => ⟨t_ini K "this is not written as it should be" "line" (tVar 1), (show PSs (cxOf CX0 P w K mg base N_i_NoText "NoText.__init__" (defScope s_i_NoText) T.fi_NoText cdv A outer s H E).nox (defBody s_i_NoText) (t_ini K "this is not written as it should be" "line" (tVar 1)) from (pss_cons (ps_expr (pe_ownI (by rfl) T.n_ToldError T.cf.b_ToldError (pa_cons (pv 0) (pa_cons pe_str pa_nil)))) (pss_one (ps_ost (pv 0) (pv 1))))).nox, ini_ok te_line N_i_NoText rfl h⟩)
theorem oki_NoCase (T : Txt K mg) : FnOk P w K mg base CX0 2 T.fi_NoCase T.fdi_NoCase ["self", "name"] (spI K "name") :=
  T.Fi_NoCase.ok sc_i_NoCase (fun vs H Q E h => spI_len h) (fun cdv A outer s H vs Q E hr h => ⟨t_ini K "there is no case of this name" "name" (tCall (spOf K Rcopied) [] E0 (tCons (tVar 1) tNil)), (pss_cons (ps_expr (pe_ownI (by rfl) T.n_AskedError T.cf.b_AskedError (pa_cons (pv 0) (pa_cons pe_str pa_nil)))) (pss_one (ps_ost (pv 0) (pe_call (ok_copied T) (hr.mono (by decide)) (by rfl) T.m_copied T.F_copied.kp T.b_copied .nil pass0 (pa_cons (pv 1) pa_nil))))), ini_ok te_name N_i_NoCase rfl h⟩)
theorem oki_NotNow (T : Txt K mg) : FnOk P w K mg base CX0 2 T.fi_NotNow T.fdi_NotNow ["self", "name"] (spI K "name") :=
  T.Fi_NotNow.ok sc_i_NotNow (fun vs H Q E h => spI_len h) (fun cdv A outer s H vs Q E hr h => ⟨t_ini K "this can't be done with the case now" "name" (tCall (spOf K Rcopied) [] E0 (tCons (tVar 1) tNil)), (pss_cons (ps_expr (pe_ownI (by rfl) T.n_AskedError T.cf.b_AskedError (pa_cons (pv 0) (pa_cons pe_str pa_nil)))) (pss_one (ps_ost (pv 0) (pe_call (ok_copied T) (hr.mono (by decide)) (by rfl) T.m_copied T.F_copied.kp T.b_copied .nil pass0 (pa_cons (pv 1) pa_nil))))), ini_ok te_name N_i_NotNow rfl h⟩)
theorem ok_law (T : Txt K mg) : FnOk P w K mg base CX0 4 T.a_law T.fd_law ["script"] (spOf K R_law22) :=
  fn_go (t := t_law22 T.cl K w) T.F_law sc_law (fun ss g post h => by first | (obtain ⟨_, rfl, _⟩ := h; rfl) | (obtain ⟨_, _, rfl, _⟩ := h; rfl) | (obtain ⟨_, _, _, rfl, _⟩ := h; rfl) | (obtain ⟨_, _, _, _, rfl, _⟩ := h; rfl) | (obtain ⟨_, _, _, _, _, rfl, _⟩ := h; rfl))
    (fun cdv A outer s H E hr => (pss_cons (ps_for PassesOwn.never rfl (pi_range1 (by rfl) T.z_range (pa_cons (pe_op op_addA pe_int (pe_callB (call_min2A rfl) (by rfl) T.z_min bt_min (pa_cons (pe_callB call_lenA (by rfl) T.z_len bt_len (pa_cons (pv 0) pa_nil)) (pa_cons pe_int pa_nil)))) pa_nil)) (pg_name (i := 1) sc_law.nd rfl (by first | exact .inl rfl | exact .inr rfl)) (pss_cons (ps_set (i := 2) sc_law.nd rfl (by first | exact .inl rfl | exact .inr rfl) (pe_call (ok__law_bag T) (hr.mono (by decide)) (by rfl) T.m__law_bag T.F__law_bag.kp T.b__law_bag .nil pass0 (pa_cons (pv 0) (pa_cons (pv 1) pa_nil)))) (pss_cons (ps_set (i := 3) sc_law.nd rfl (by first | exact .inl rfl | exact .inr rfl) (pe_ix ix_seq (pe_lst (pa_cons (pe_call (ok__law_name T) (hr.mono (by decide)) (by rfl) T.m__law_name T.F__law_name.kp T.b__law_name .nil pass0 (pa_cons (pv 2) pa_nil)) (pa_cons pe_str (pa_cons pe_str pa_nil)))) (pe_call (ok__law_take T) (hr.mono (by decide)) (by rfl) T.m__law_take T.F__law_take.kp T.b__law_take .nil pass0 (pa_cons (pv 2) (pa_cons pe_int pa_nil))) (fun _ _ => rfl))) (pss_cons (ps_set (i := 4) sc_law.nd rfl (by first | exact .inl rfl | exact .inr rfl) (pe_op op_addA pe_int (pe_call (ok__law_take T) (hr.mono (by decide)) (by rfl) T.m__law_take T.F__law_take.kp T.b__law_take .nil pass0 (pa_cons (pv 2) (pa_cons (pe_op op_pow pe_int pe_int) pa_nil))))) (pss_cons (ps_set (i := 5) sc_law.nd rfl (by first | exact .inl rfl | exact .inr rfl) (pe_lst (pa_cons (pe_tup (pa_cons (pe_exc PySem.F.excBase_ValueError T.cf.x_NoHouse T.n_NoHouse T.cf.k_NoHouse (by rfl) pe_str) (pa_cons pe_str pa_nil))) (pa_cons (pe_tup (pa_cons (pe_exc PySem.F.excBase_ValueError T.cf.x_NoCases T.n_NoCases T.cf.k_NoCases (by rfl) pe_str) (pa_cons pe_str pa_nil))) (pa_cons (pe_tup (pa_cons (pe_exc PySem.F.excBase_ValueError T.cf.x_NoPlan T.n_NoPlan T.cf.k_NoPlan (by rfl) pe_str) (pa_cons pe_str pa_nil))) pa_nil))))) (pss_cons (ps_set (i := 5) sc_law.nd rfl (by first | exact .inl rfl | exact .inr rfl) (pe_op op_addA (pv 5) (pe_lst (pa_cons (pe_tup (pa_cons (pe_exc PySem.F.excBase_ValueError T.cf.x_NoCount T.n_NoCount T.cf.k_NoCount (by rfl) pe_str) (pa_cons pe_str pa_nil))) (pa_cons (pe_tup (pa_cons (pe_exc PySem.F.excBase_ValueError T.cf.x_NoMinutes T.n_NoMinutes T.cf.k_NoMinutes (by rfl) pe_str) (pa_cons pe_str pa_nil))) (pa_cons (pe_tup (pa_cons (pe_exc PySem.F.excBase_ValueError T.cf.x_NoLot T.n_NoLot T.cf.k_NoLot (by rfl) pe_str) (pa_cons pe_str pa_nil))) pa_nil)))))) (pss_cons (ps_set (i := 5) sc_law.nd rfl (by first | exact .inl rfl | exact .inr rfl) (pe_op op_addA (pv 5) (pe_lst (pa_cons (pe_tup (pa_cons (pe_exc PySem.F.excBase_ValueError T.cf.x_NoRow T.n_NoRow T.cf.k_NoRow (by rfl) pe_str) (pa_cons pe_str pa_nil))) (pa_cons (pe_tup (pa_cons (pe_mkXK T.i_NoText (oki_NoText T) (hr.mono (by decide)) T.qi_NoText_0 (.cons rfl .nil) pass0 (by rfl) T.n_NoText pk_nil) (pa_cons pe_str pa_nil))) pa_nil))))) (pss_cons (ps_set (i := 6) sc_law.nd rfl (by first | exact .inl rfl | exact .inr rfl) (pe_lst (pa_cons (pe_tup (pa_cons (pe_exc PySem.F.excBase_ValueError T.cf.x_TooMany T.n_TooMany T.cf.k_TooMany (by rfl) pe_str) (pa_cons pe_str pa_nil))) (pa_cons (pe_tup (pa_cons (pe_exc PySem.F.excBase_ValueError T.cf.x_Crowded T.n_Crowded T.cf.k_Crowded (by rfl) pe_str) (pa_cons pe_str pa_nil))) (pa_cons (pe_tup (pa_cons (pe_exc PySem.F.excBase_ValueError T.cf.x_NothingLeft T.n_NothingLeft T.cf.k_NothingLeft (by rfl) pe_str) (pa_cons pe_str pa_nil))) pa_nil))))) (pss_cons (ps_set (i := 6) sc_law.nd rfl (by first | exact .inl rfl | exact .inr rfl) (pe_op op_addA (pv 6) (pe_lst (pa_cons (pe_tup (pa_cons (pe_mkX T.i_NoCase (oki_NoCase T) (hr.mono (by decide)) T.bi_NoCase pass0 (by rfl) T.n_NoCase (pa_cons (pv 3) pa_nil)) (pa_cons pe_str pa_nil))) (pa_cons (pe_tup (pa_cons (pe_mkX T.i_NotNow (oki_NotNow T) (hr.mono (by decide)) T.bi_NotNow pass0 (by rfl) T.n_NotNow (pa_cons (pv 3) pa_nil)) (pa_cons pe_str pa_nil))) pa_nil))))) (pss_cons (ps_for PassesOwn.never rfl (pi_list (pe_lst (pa_cons (pe_tup (pa_cons pe_str (pa_cons (pv 5) pa_nil))) (pa_cons (pe_tup (pa_cons pe_str (pa_cons (pv 6) pa_nil))) pa_nil)))) (pg_tup rfl (pgs_cons (pg_name (i := 7) sc_law.nd rfl (by first | exact .inl rfl | exact .inr rfl)) (pgs_cons (pg_name (i := 8) sc_law.nd rfl (by first | exact .inl rfl | exact .inr rfl)) pgs_nil))) (pss_one (ps_for PassesOwn.never rfl (pi_list (pv 8)) (pg_tup rfl (pgs_cons (pg_name (i := 9) sc_law.nd rfl (by first | exact .inl rfl | exact .inr rfl)) (pgs_cons (pg_name (i := 10) sc_law.nd rfl (by first | exact .inl rfl | exact .inr rfl)) pgs_nil))) (pss_one (ps_if (PW.pt (pw_or (pt_not (pt_val (pe_callB call_isX (by rfl) T.z_isinstance bt_isinstance (pa_cons (pv 9) (pa_cons (pe_glob (by rfl) T.n_DayError rfl) pa_nil))))) (pw_or1 (pt_cmpR (op_neD hr.units) (pe_call (ok__law_kinds T) (hr.mono (by decide)) (by rfl) T.m__law_kinds T.F__law_kinds.kp T.b__law_kinds .nil pass0 (pa_cons (pv 9) pa_nil)) (pe_op op_addS (pe_op op_addS (pv 7) (pv 10)) pe_str) (nomark _))))) (pss_one (ps_ret pe_bl)) pss_nil))))) (pss_cons (ps_if (pt_cmpR (op_neD hr.units) (pe_lst (pa_cons (pe_xfV (pe_mkXK T.i_NoCase (oki_NoCase T) (hr.mono (by decide)) T.qi_NoCase_1 .nil pass0 (by rfl) T.n_NoCase (pk_cons (pv 3) pk_nil))) (pa_cons (pe_xfV (pe_mkXK T.i_NotNow (oki_NotNow T) (hr.mono (by decide)) T.qi_NotNow_1 .nil pass0 (by rfl) T.n_NotNow (pk_cons (pv 3) pk_nil))) (pa_cons (pe_xfV (pe_mkX T.i_NoCase (oki_NoCase T) (hr.mono (by decide)) T.bi_NoCase pass0 (by rfl) T.n_NoCase (pa_cons (pv 3) pa_nil))) pa_nil)))) (pe_op op_rep (pe_lst (pa_cons (pv 3) pa_nil)) pe_int) (nomark _)) (pss_one (ps_ret pe_bl)) pss_nil) (pss_one (ps_if (PW.pt (pw_or (pt_cmpR op_notN0 (pe_xfV (pe_mkXK T.i_NoText (oki_NoText T) (hr.mono (by decide)) T.qi_NoText_0 (.cons rfl .nil) pass0 (by rfl) T.n_NoText pk_nil)) pe_non (nomark _)) (pw_or (pt_cmpR (op_neD hr.units) (pe_xfV (pe_mkX T.i_NoText (oki_NoText T) (hr.mono (by decide)) T.bi_NoText pass0 (by rfl) T.n_NoText (pa_cons (pv 4) pa_nil))) (pv 4) (nomark _)) (pw_or1 (pt_cmpR (op_neD hr.units) (pe_xfV (pe_mkXK T.i_NoText (oki_NoText T) (hr.mono (by decide)) T.qi_NoText_1 .nil pass0 (by rfl) T.n_NoText (pk_cons (pv 4) pk_nil))) (pv 4) (nomark _)))))) (pss_one (ps_ret pe_bl)) pss_nil))))))))))))) (pss_one (ps_ret pe_bl))))
    (go_law22 T.cf)
end
theorem all_mk {l : PySem.W.OpenLaw} {w : PySem.World} {K : PySem.W.Frag} {h : Heap} {mg : Str → Option Value} {fa : Addr} (X : K.In h) (G : h.Ns mainGlobals mg) (hfa : mg "law" = some (.ref fa))
    {f0 f1 f2 f3 f4 f5 : Addr} {od0 an0 od1 an1 od2 an2 od3 an3 od4 an4 od5 an5 : Option Addr} {sl0 sl1 sl2 sl3 sl4 sl5 : Array (Option Value)}
    {oc0 kV0 dc0 pm0 cd0 ct0 oc1 kV1 dc1 pm1 cd1 ct1 oc2 kV2 dc2 pm2 cd2 ct2 oc3 kV3 dc3 pm3 cd3 ct3 oc4 kV4 dc4 pm4 cd4 ct4 oc5 kV5 dc5 pm5 cd5 ct5 : Value}
    (a0 : PySem.W.nsIn K mainGlobals "_law_bag" = some (some (.ref f0))) (l0 : K.lookup f0 = some ⟨oc0, od0, .func (PySem.W.fnOf "_law_bag" "_law_bag" (defArgs s__law_bag) (defBody s__law_bag) (defScope s__law_bag) .none kV0 dc0 pm0 an0 cd0 ct0), sl0⟩) (c0 : PySem.W.codeIn K cd0 "_law_bag" = true) (k0 : PySem.W.keepIn K (.ref f0) = true)
    (a1 : PySem.W.nsIn K mainGlobals "_law_take" = some (some (.ref f1))) (l1 : K.lookup f1 = some ⟨oc1, od1, .func (PySem.W.fnOf "_law_take" "_law_take" (defArgs s__law_take) (defBody s__law_take) (defScope s__law_take) .none kV1 dc1 pm1 an1 cd1 ct1), sl1⟩) (c1 : PySem.W.codeIn K cd1 "_law_take" = true) (k1 : PySem.W.keepIn K (.ref f1) = true)
    (a2 : PySem.W.nsIn K mainGlobals "_law_name" = some (some (.ref f2))) (l2 : K.lookup f2 = some ⟨oc2, od2, .func (PySem.W.fnOf "_law_name" "_law_name" (defArgs s__law_name) (defBody s__law_name) (defScope s__law_name) .none kV2 dc2 pm2 an2 cd2 ct2), sl2⟩) (c2 : PySem.W.codeIn K cd2 "_law_name" = true) (k2 : PySem.W.keepIn K (.ref f2) = true)
    (a3 : PySem.W.nsIn K mainGlobals "copied" = some (some (.ref f3))) (l3 : K.lookup f3 = some ⟨oc3, od3, .func (PySem.W.fnOf "copied" "copied" (defArgs s_copied) (defBody s_copied) (defScope s_copied) .none kV3 dc3 pm3 an3 cd3 ct3), sl3⟩) (c3 : PySem.W.codeIn K cd3 "copied" = true) (k3 : PySem.W.keepIn K (.ref f3) = true)
    (a4 : PySem.W.nsIn K mainGlobals "_law_kinds" = some (some (.ref f4))) (l4 : K.lookup f4 = some ⟨oc4, od4, .func (PySem.W.fnOf "_law_kinds" "_law_kinds" (defArgs s__law_kinds) (defBody s__law_kinds) (defScope s__law_kinds) .none kV4 dc4 pm4 an4 cd4 ct4), sl4⟩) (c4 : PySem.W.codeIn K cd4 "_law_kinds" = true) (k4 : PySem.W.keepIn K (.ref f4) = true)
    (a5 : PySem.W.nsIn K mainGlobals "law" = some (some (.ref f5))) (l5 : K.lookup f5 = some ⟨oc5, od5, .func (PySem.W.fnOf "law" "law" (defArgs s_law) (defBody s_law) (defScope s_law) .none kV5 dc5 pm5 an5 cd5 ct5), sl5⟩) (c5 : PySem.W.codeIn K cd5 "law" = true) (k5 : PySem.W.keepIn K (.ref f5) = true)
    {c_DayError c_ToldError c_AskedError c_NoHouse c_NoCases c_NoPlan c_NoCount c_NoMinutes c_NoLot c_NoText c_NoRow c_NoCase c_NotNow c_TooMany c_Crowded c_NothingLeft : Addr}
    (ac_DayError : PySem.W.nsIn K mainGlobals "DayError" = some (some (.ref c_DayError)))
    (ac_ToldError : PySem.W.nsIn K mainGlobals "ToldError" = some (some (.ref c_ToldError)))
    (ac_AskedError : PySem.W.nsIn K mainGlobals "AskedError" = some (some (.ref c_AskedError)))
    (ac_NoHouse : PySem.W.nsIn K mainGlobals "NoHouse" = some (some (.ref c_NoHouse)))
    (ac_NoCases : PySem.W.nsIn K mainGlobals "NoCases" = some (some (.ref c_NoCases)))
    (ac_NoPlan : PySem.W.nsIn K mainGlobals "NoPlan" = some (some (.ref c_NoPlan)))
    (ac_NoCount : PySem.W.nsIn K mainGlobals "NoCount" = some (some (.ref c_NoCount)))
    (ac_NoMinutes : PySem.W.nsIn K mainGlobals "NoMinutes" = some (some (.ref c_NoMinutes)))
    (ac_NoLot : PySem.W.nsIn K mainGlobals "NoLot" = some (some (.ref c_NoLot)))
    (ac_NoText : PySem.W.nsIn K mainGlobals "NoText" = some (some (.ref c_NoText)))
    (ac_NoRow : PySem.W.nsIn K mainGlobals "NoRow" = some (some (.ref c_NoRow)))
    (ac_NoCase : PySem.W.nsIn K mainGlobals "NoCase" = some (some (.ref c_NoCase)))
    (ac_NotNow : PySem.W.nsIn K mainGlobals "NotNow" = some (some (.ref c_NotNow)))
    (ac_TooMany : PySem.W.nsIn K mainGlobals "TooMany" = some (some (.ref c_TooMany)))
    (ac_Crowded : PySem.W.nsIn K mainGlobals "Crowded" = some (some (.ref c_Crowded)))
    (ac_NothingLeft : PySem.W.nsIn K mainGlobals "NothingLeft" = some (some (.ref c_NothingLeft)))
    (x_NoHouse : PySem.W.excIn K c_NoHouse VEm "ValueError.__new__" = true) (xk_NoHouse : PySem.W.keepIn K (.ref c_NoHouse) = true)
    (e_NoHouse : L2.ExcC K c_NoHouse) (d_NoHouse : PySem.W.kitOne K (.ref c_NoHouse) (.ref c_DayError) = some true)
    (kb0_NoHouse : PySem.W.kitOne K (.ref c_NoHouse) (.ref c_AskedError) = some false) (kb1_NoHouse : PySem.W.kitOne K (.ref c_NoHouse) (.ref c_ToldError) = some true) (kb2_NoHouse : PySem.W.kitOne K (.ref c_NoHouse) (.ref c_Crowded) = some false) (kb3_NoHouse : PySem.W.kitOne K (.ref c_NoHouse) (.ref c_NoCase) = some false) (kb4_NoHouse : PySem.W.kitOne K (.ref c_NoHouse) (.ref c_NoCases) = some false) (kb5_NoHouse : PySem.W.kitOne K (.ref c_NoHouse) (.ref c_NoCount) = some false) (kb6_NoHouse : PySem.W.kitOne K (.ref c_NoHouse) (.ref c_NoHouse) = some true) (kb7_NoHouse : PySem.W.kitOne K (.ref c_NoHouse) (.ref c_NoLot) = some false) (kb8_NoHouse : PySem.W.kitOne K (.ref c_NoHouse) (.ref c_NoMinutes) = some false) (kb9_NoHouse : PySem.W.kitOne K (.ref c_NoHouse) (.ref c_NoPlan) = some false) (kb10_NoHouse : PySem.W.kitOne K (.ref c_NoHouse) (.ref c_NoRow) = some false) (kb11_NoHouse : PySem.W.kitOne K (.ref c_NoHouse) (.ref c_NoText) = some false) (kb12_NoHouse : PySem.W.kitOne K (.ref c_NoHouse) (.ref c_NotNow) = some false) (kb13_NoHouse : PySem.W.kitOne K (.ref c_NoHouse) (.ref c_NothingLeft) = some false) (kb14_NoHouse : PySem.W.kitOne K (.ref c_NoHouse) (.ref c_TooMany) = some false) (kb15_NoHouse : PySem.W.kitOne K (.ref c_NoHouse) (.type "ValueError") = some true)
    (x_NoCases : PySem.W.excIn K c_NoCases VEm "ValueError.__new__" = true) (xk_NoCases : PySem.W.keepIn K (.ref c_NoCases) = true)
    (e_NoCases : L2.ExcC K c_NoCases) (d_NoCases : PySem.W.kitOne K (.ref c_NoCases) (.ref c_DayError) = some true)
    (kb0_NoCases : PySem.W.kitOne K (.ref c_NoCases) (.ref c_AskedError) = some false) (kb1_NoCases : PySem.W.kitOne K (.ref c_NoCases) (.ref c_ToldError) = some true) (kb2_NoCases : PySem.W.kitOne K (.ref c_NoCases) (.ref c_Crowded) = some false) (kb3_NoCases : PySem.W.kitOne K (.ref c_NoCases) (.ref c_NoCase) = some false) (kb4_NoCases : PySem.W.kitOne K (.ref c_NoCases) (.ref c_NoCases) = some true) (kb5_NoCases : PySem.W.kitOne K (.ref c_NoCases) (.ref c_NoCount) = some false) (kb6_NoCases : PySem.W.kitOne K (.ref c_NoCases) (.ref c_NoHouse) = some false) (kb7_NoCases : PySem.W.kitOne K (.ref c_NoCases) (.ref c_NoLot) = some false) (kb8_NoCases : PySem.W.kitOne K (.ref c_NoCases) (.ref c_NoMinutes) = some false) (kb9_NoCases : PySem.W.kitOne K (.ref c_NoCases) (.ref c_NoPlan) = some false) (kb10_NoCases : PySem.W.kitOne K (.ref c_NoCases) (.ref c_NoRow) = some false) (kb11_NoCases : PySem.W.kitOne K (.ref c_NoCases) (.ref c_NoText) = some false) (kb12_NoCases : PySem.W.kitOne K (.ref c_NoCases) (.ref c_NotNow) = some false) (kb13_NoCases : PySem.W.kitOne K (.ref c_NoCases) (.ref c_NothingLeft) = some false) (kb14_NoCases : PySem.W.kitOne K (.ref c_NoCases) (.ref c_TooMany) = some false) (kb15_NoCases : PySem.W.kitOne K (.ref c_NoCases) (.type "ValueError") = some true)
    (x_NoPlan : PySem.W.excIn K c_NoPlan VEm "ValueError.__new__" = true) (xk_NoPlan : PySem.W.keepIn K (.ref c_NoPlan) = true)
    (e_NoPlan : L2.ExcC K c_NoPlan) (d_NoPlan : PySem.W.kitOne K (.ref c_NoPlan) (.ref c_DayError) = some true)
    (kb0_NoPlan : PySem.W.kitOne K (.ref c_NoPlan) (.ref c_AskedError) = some false) (kb1_NoPlan : PySem.W.kitOne K (.ref c_NoPlan) (.ref c_ToldError) = some true) (kb2_NoPlan : PySem.W.kitOne K (.ref c_NoPlan) (.ref c_Crowded) = some false) (kb3_NoPlan : PySem.W.kitOne K (.ref c_NoPlan) (.ref c_NoCase) = some false) (kb4_NoPlan : PySem.W.kitOne K (.ref c_NoPlan) (.ref c_NoCases) = some false) (kb5_NoPlan : PySem.W.kitOne K (.ref c_NoPlan) (.ref c_NoCount) = some false) (kb6_NoPlan : PySem.W.kitOne K (.ref c_NoPlan) (.ref c_NoHouse) = some false) (kb7_NoPlan : PySem.W.kitOne K (.ref c_NoPlan) (.ref c_NoLot) = some false) (kb8_NoPlan : PySem.W.kitOne K (.ref c_NoPlan) (.ref c_NoMinutes) = some false) (kb9_NoPlan : PySem.W.kitOne K (.ref c_NoPlan) (.ref c_NoPlan) = some true) (kb10_NoPlan : PySem.W.kitOne K (.ref c_NoPlan) (.ref c_NoRow) = some false) (kb11_NoPlan : PySem.W.kitOne K (.ref c_NoPlan) (.ref c_NoText) = some false) (kb12_NoPlan : PySem.W.kitOne K (.ref c_NoPlan) (.ref c_NotNow) = some false) (kb13_NoPlan : PySem.W.kitOne K (.ref c_NoPlan) (.ref c_NothingLeft) = some false) (kb14_NoPlan : PySem.W.kitOne K (.ref c_NoPlan) (.ref c_TooMany) = some false) (kb15_NoPlan : PySem.W.kitOne K (.ref c_NoPlan) (.type "ValueError") = some true)
    (x_NoCount : PySem.W.excIn K c_NoCount VEm "ValueError.__new__" = true) (xk_NoCount : PySem.W.keepIn K (.ref c_NoCount) = true)
    (e_NoCount : L2.ExcC K c_NoCount) (d_NoCount : PySem.W.kitOne K (.ref c_NoCount) (.ref c_DayError) = some true)
    (kb0_NoCount : PySem.W.kitOne K (.ref c_NoCount) (.ref c_AskedError) = some false) (kb1_NoCount : PySem.W.kitOne K (.ref c_NoCount) (.ref c_ToldError) = some true) (kb2_NoCount : PySem.W.kitOne K (.ref c_NoCount) (.ref c_Crowded) = some false) (kb3_NoCount : PySem.W.kitOne K (.ref c_NoCount) (.ref c_NoCase) = some false) (kb4_NoCount : PySem.W.kitOne K (.ref c_NoCount) (.ref c_NoCases) = some false) (kb5_NoCount : PySem.W.kitOne K (.ref c_NoCount) (.ref c_NoCount) = some true) (kb6_NoCount : PySem.W.kitOne K (.ref c_NoCount) (.ref c_NoHouse) = some false) (kb7_NoCount : PySem.W.kitOne K (.ref c_NoCount) (.ref c_NoLot) = some false) (kb8_NoCount : PySem.W.kitOne K (.ref c_NoCount) (.ref c_NoMinutes) = some false) (kb9_NoCount : PySem.W.kitOne K (.ref c_NoCount) (.ref c_NoPlan) = some false) (kb10_NoCount : PySem.W.kitOne K (.ref c_NoCount) (.ref c_NoRow) = some false) (kb11_NoCount : PySem.W.kitOne K (.ref c_NoCount) (.ref c_NoText) = some false) (kb12_NoCount : PySem.W.kitOne K (.ref c_NoCount) (.ref c_NotNow) = some false) (kb13_NoCount : PySem.W.kitOne K (.ref c_NoCount) (.ref c_NothingLeft) = some false) (kb14_NoCount : PySem.W.kitOne K (.ref c_NoCount) (.ref c_TooMany) = some false) (kb15_NoCount : PySem.W.kitOne K (.ref c_NoCount) (.type "ValueError") = some true)
    (x_NoMinutes : PySem.W.excIn K c_NoMinutes VEm "ValueError.__new__" = true) (xk_NoMinutes : PySem.W.keepIn K (.ref c_NoMinutes) = true)
    (e_NoMinutes : L2.ExcC K c_NoMinutes) (d_NoMinutes : PySem.W.kitOne K (.ref c_NoMinutes) (.ref c_DayError) = some true)
    (kb0_NoMinutes : PySem.W.kitOne K (.ref c_NoMinutes) (.ref c_AskedError) = some false) (kb1_NoMinutes : PySem.W.kitOne K (.ref c_NoMinutes) (.ref c_ToldError) = some true) (kb2_NoMinutes : PySem.W.kitOne K (.ref c_NoMinutes) (.ref c_Crowded) = some false) (kb3_NoMinutes : PySem.W.kitOne K (.ref c_NoMinutes) (.ref c_NoCase) = some false) (kb4_NoMinutes : PySem.W.kitOne K (.ref c_NoMinutes) (.ref c_NoCases) = some false) (kb5_NoMinutes : PySem.W.kitOne K (.ref c_NoMinutes) (.ref c_NoCount) = some false) (kb6_NoMinutes : PySem.W.kitOne K (.ref c_NoMinutes) (.ref c_NoHouse) = some false) (kb7_NoMinutes : PySem.W.kitOne K (.ref c_NoMinutes) (.ref c_NoLot) = some false) (kb8_NoMinutes : PySem.W.kitOne K (.ref c_NoMinutes) (.ref c_NoMinutes) = some true) (kb9_NoMinutes : PySem.W.kitOne K (.ref c_NoMinutes) (.ref c_NoPlan) = some false) (kb10_NoMinutes : PySem.W.kitOne K (.ref c_NoMinutes) (.ref c_NoRow) = some false) (kb11_NoMinutes : PySem.W.kitOne K (.ref c_NoMinutes) (.ref c_NoText) = some false) (kb12_NoMinutes : PySem.W.kitOne K (.ref c_NoMinutes) (.ref c_NotNow) = some false) (kb13_NoMinutes : PySem.W.kitOne K (.ref c_NoMinutes) (.ref c_NothingLeft) = some false) (kb14_NoMinutes : PySem.W.kitOne K (.ref c_NoMinutes) (.ref c_TooMany) = some false) (kb15_NoMinutes : PySem.W.kitOne K (.ref c_NoMinutes) (.type "ValueError") = some true)
    (x_NoLot : PySem.W.excIn K c_NoLot VEm "ValueError.__new__" = true) (xk_NoLot : PySem.W.keepIn K (.ref c_NoLot) = true)
    (e_NoLot : L2.ExcC K c_NoLot) (d_NoLot : PySem.W.kitOne K (.ref c_NoLot) (.ref c_DayError) = some true)
    (kb0_NoLot : PySem.W.kitOne K (.ref c_NoLot) (.ref c_AskedError) = some false) (kb1_NoLot : PySem.W.kitOne K (.ref c_NoLot) (.ref c_ToldError) = some true) (kb2_NoLot : PySem.W.kitOne K (.ref c_NoLot) (.ref c_Crowded) = some false) (kb3_NoLot : PySem.W.kitOne K (.ref c_NoLot) (.ref c_NoCase) = some false) (kb4_NoLot : PySem.W.kitOne K (.ref c_NoLot) (.ref c_NoCases) = some false) (kb5_NoLot : PySem.W.kitOne K (.ref c_NoLot) (.ref c_NoCount) = some false) (kb6_NoLot : PySem.W.kitOne K (.ref c_NoLot) (.ref c_NoHouse) = some false) (kb7_NoLot : PySem.W.kitOne K (.ref c_NoLot) (.ref c_NoLot) = some true) (kb8_NoLot : PySem.W.kitOne K (.ref c_NoLot) (.ref c_NoMinutes) = some false) (kb9_NoLot : PySem.W.kitOne K (.ref c_NoLot) (.ref c_NoPlan) = some false) (kb10_NoLot : PySem.W.kitOne K (.ref c_NoLot) (.ref c_NoRow) = some false) (kb11_NoLot : PySem.W.kitOne K (.ref c_NoLot) (.ref c_NoText) = some false) (kb12_NoLot : PySem.W.kitOne K (.ref c_NoLot) (.ref c_NotNow) = some false) (kb13_NoLot : PySem.W.kitOne K (.ref c_NoLot) (.ref c_NothingLeft) = some false) (kb14_NoLot : PySem.W.kitOne K (.ref c_NoLot) (.ref c_TooMany) = some false) (kb15_NoLot : PySem.W.kitOne K (.ref c_NoLot) (.type "ValueError") = some true)
    (x_NoRow : PySem.W.excIn K c_NoRow VEm "ValueError.__new__" = true) (xk_NoRow : PySem.W.keepIn K (.ref c_NoRow) = true)
    (e_NoRow : L2.ExcC K c_NoRow) (d_NoRow : PySem.W.kitOne K (.ref c_NoRow) (.ref c_DayError) = some true)
    (kb0_NoRow : PySem.W.kitOne K (.ref c_NoRow) (.ref c_AskedError) = some false) (kb1_NoRow : PySem.W.kitOne K (.ref c_NoRow) (.ref c_ToldError) = some true) (kb2_NoRow : PySem.W.kitOne K (.ref c_NoRow) (.ref c_Crowded) = some false) (kb3_NoRow : PySem.W.kitOne K (.ref c_NoRow) (.ref c_NoCase) = some false) (kb4_NoRow : PySem.W.kitOne K (.ref c_NoRow) (.ref c_NoCases) = some false) (kb5_NoRow : PySem.W.kitOne K (.ref c_NoRow) (.ref c_NoCount) = some false) (kb6_NoRow : PySem.W.kitOne K (.ref c_NoRow) (.ref c_NoHouse) = some false) (kb7_NoRow : PySem.W.kitOne K (.ref c_NoRow) (.ref c_NoLot) = some false) (kb8_NoRow : PySem.W.kitOne K (.ref c_NoRow) (.ref c_NoMinutes) = some false) (kb9_NoRow : PySem.W.kitOne K (.ref c_NoRow) (.ref c_NoPlan) = some false) (kb10_NoRow : PySem.W.kitOne K (.ref c_NoRow) (.ref c_NoRow) = some true) (kb11_NoRow : PySem.W.kitOne K (.ref c_NoRow) (.ref c_NoText) = some false) (kb12_NoRow : PySem.W.kitOne K (.ref c_NoRow) (.ref c_NotNow) = some false) (kb13_NoRow : PySem.W.kitOne K (.ref c_NoRow) (.ref c_NothingLeft) = some false) (kb14_NoRow : PySem.W.kitOne K (.ref c_NoRow) (.ref c_TooMany) = some false) (kb15_NoRow : PySem.W.kitOne K (.ref c_NoRow) (.type "ValueError") = some true)
    (e_NoText : L2.ExcC K c_NoText) (d_NoText : PySem.W.kitOne K (.ref c_NoText) (.ref c_DayError) = some true)
    (kb0_NoText : PySem.W.kitOne K (.ref c_NoText) (.ref c_AskedError) = some false) (kb1_NoText : PySem.W.kitOne K (.ref c_NoText) (.ref c_ToldError) = some true) (kb2_NoText : PySem.W.kitOne K (.ref c_NoText) (.ref c_Crowded) = some false) (kb3_NoText : PySem.W.kitOne K (.ref c_NoText) (.ref c_NoCase) = some false) (kb4_NoText : PySem.W.kitOne K (.ref c_NoText) (.ref c_NoCases) = some false) (kb5_NoText : PySem.W.kitOne K (.ref c_NoText) (.ref c_NoCount) = some false) (kb6_NoText : PySem.W.kitOne K (.ref c_NoText) (.ref c_NoHouse) = some false) (kb7_NoText : PySem.W.kitOne K (.ref c_NoText) (.ref c_NoLot) = some false) (kb8_NoText : PySem.W.kitOne K (.ref c_NoText) (.ref c_NoMinutes) = some false) (kb9_NoText : PySem.W.kitOne K (.ref c_NoText) (.ref c_NoPlan) = some false) (kb10_NoText : PySem.W.kitOne K (.ref c_NoText) (.ref c_NoRow) = some false) (kb11_NoText : PySem.W.kitOne K (.ref c_NoText) (.ref c_NoText) = some true) (kb12_NoText : PySem.W.kitOne K (.ref c_NoText) (.ref c_NotNow) = some false) (kb13_NoText : PySem.W.kitOne K (.ref c_NoText) (.ref c_NothingLeft) = some false) (kb14_NoText : PySem.W.kitOne K (.ref c_NoText) (.ref c_TooMany) = some false) (kb15_NoText : PySem.W.kitOne K (.ref c_NoText) (.type "ValueError") = some true)
    (x_TooMany : PySem.W.excIn K c_TooMany VEm "ValueError.__new__" = true) (xk_TooMany : PySem.W.keepIn K (.ref c_TooMany) = true)
    (e_TooMany : L2.ExcC K c_TooMany) (d_TooMany : PySem.W.kitOne K (.ref c_TooMany) (.ref c_DayError) = some true)
    (kb0_TooMany : PySem.W.kitOne K (.ref c_TooMany) (.ref c_AskedError) = some true) (kb1_TooMany : PySem.W.kitOne K (.ref c_TooMany) (.ref c_ToldError) = some false) (kb2_TooMany : PySem.W.kitOne K (.ref c_TooMany) (.ref c_Crowded) = some false) (kb3_TooMany : PySem.W.kitOne K (.ref c_TooMany) (.ref c_NoCase) = some false) (kb4_TooMany : PySem.W.kitOne K (.ref c_TooMany) (.ref c_NoCases) = some false) (kb5_TooMany : PySem.W.kitOne K (.ref c_TooMany) (.ref c_NoCount) = some false) (kb6_TooMany : PySem.W.kitOne K (.ref c_TooMany) (.ref c_NoHouse) = some false) (kb7_TooMany : PySem.W.kitOne K (.ref c_TooMany) (.ref c_NoLot) = some false) (kb8_TooMany : PySem.W.kitOne K (.ref c_TooMany) (.ref c_NoMinutes) = some false) (kb9_TooMany : PySem.W.kitOne K (.ref c_TooMany) (.ref c_NoPlan) = some false) (kb10_TooMany : PySem.W.kitOne K (.ref c_TooMany) (.ref c_NoRow) = some false) (kb11_TooMany : PySem.W.kitOne K (.ref c_TooMany) (.ref c_NoText) = some false) (kb12_TooMany : PySem.W.kitOne K (.ref c_TooMany) (.ref c_NotNow) = some false) (kb13_TooMany : PySem.W.kitOne K (.ref c_TooMany) (.ref c_NothingLeft) = some false) (kb14_TooMany : PySem.W.kitOne K (.ref c_TooMany) (.ref c_TooMany) = some true) (kb15_TooMany : PySem.W.kitOne K (.ref c_TooMany) (.type "ValueError") = some true)
    (x_Crowded : PySem.W.excIn K c_Crowded VEm "ValueError.__new__" = true) (xk_Crowded : PySem.W.keepIn K (.ref c_Crowded) = true)
    (e_Crowded : L2.ExcC K c_Crowded) (d_Crowded : PySem.W.kitOne K (.ref c_Crowded) (.ref c_DayError) = some true)
    (kb0_Crowded : PySem.W.kitOne K (.ref c_Crowded) (.ref c_AskedError) = some true) (kb1_Crowded : PySem.W.kitOne K (.ref c_Crowded) (.ref c_ToldError) = some false) (kb2_Crowded : PySem.W.kitOne K (.ref c_Crowded) (.ref c_Crowded) = some true) (kb3_Crowded : PySem.W.kitOne K (.ref c_Crowded) (.ref c_NoCase) = some false) (kb4_Crowded : PySem.W.kitOne K (.ref c_Crowded) (.ref c_NoCases) = some false) (kb5_Crowded : PySem.W.kitOne K (.ref c_Crowded) (.ref c_NoCount) = some false) (kb6_Crowded : PySem.W.kitOne K (.ref c_Crowded) (.ref c_NoHouse) = some false) (kb7_Crowded : PySem.W.kitOne K (.ref c_Crowded) (.ref c_NoLot) = some false) (kb8_Crowded : PySem.W.kitOne K (.ref c_Crowded) (.ref c_NoMinutes) = some false) (kb9_Crowded : PySem.W.kitOne K (.ref c_Crowded) (.ref c_NoPlan) = some false) (kb10_Crowded : PySem.W.kitOne K (.ref c_Crowded) (.ref c_NoRow) = some false) (kb11_Crowded : PySem.W.kitOne K (.ref c_Crowded) (.ref c_NoText) = some false) (kb12_Crowded : PySem.W.kitOne K (.ref c_Crowded) (.ref c_NotNow) = some false) (kb13_Crowded : PySem.W.kitOne K (.ref c_Crowded) (.ref c_NothingLeft) = some false) (kb14_Crowded : PySem.W.kitOne K (.ref c_Crowded) (.ref c_TooMany) = some false) (kb15_Crowded : PySem.W.kitOne K (.ref c_Crowded) (.type "ValueError") = some true)
    (x_NothingLeft : PySem.W.excIn K c_NothingLeft VEm "ValueError.__new__" = true) (xk_NothingLeft : PySem.W.keepIn K (.ref c_NothingLeft) = true)
    (e_NothingLeft : L2.ExcC K c_NothingLeft) (d_NothingLeft : PySem.W.kitOne K (.ref c_NothingLeft) (.ref c_DayError) = some true)
    (kb0_NothingLeft : PySem.W.kitOne K (.ref c_NothingLeft) (.ref c_AskedError) = some true) (kb1_NothingLeft : PySem.W.kitOne K (.ref c_NothingLeft) (.ref c_ToldError) = some false) (kb2_NothingLeft : PySem.W.kitOne K (.ref c_NothingLeft) (.ref c_Crowded) = some false) (kb3_NothingLeft : PySem.W.kitOne K (.ref c_NothingLeft) (.ref c_NoCase) = some false) (kb4_NothingLeft : PySem.W.kitOne K (.ref c_NothingLeft) (.ref c_NoCases) = some false) (kb5_NothingLeft : PySem.W.kitOne K (.ref c_NothingLeft) (.ref c_NoCount) = some false) (kb6_NothingLeft : PySem.W.kitOne K (.ref c_NothingLeft) (.ref c_NoHouse) = some false) (kb7_NothingLeft : PySem.W.kitOne K (.ref c_NothingLeft) (.ref c_NoLot) = some false) (kb8_NothingLeft : PySem.W.kitOne K (.ref c_NothingLeft) (.ref c_NoMinutes) = some false) (kb9_NothingLeft : PySem.W.kitOne K (.ref c_NothingLeft) (.ref c_NoPlan) = some false) (kb10_NothingLeft : PySem.W.kitOne K (.ref c_NothingLeft) (.ref c_NoRow) = some false) (kb11_NothingLeft : PySem.W.kitOne K (.ref c_NothingLeft) (.ref c_NoText) = some false) (kb12_NothingLeft : PySem.W.kitOne K (.ref c_NothingLeft) (.ref c_NotNow) = some false) (kb13_NothingLeft : PySem.W.kitOne K (.ref c_NothingLeft) (.ref c_NothingLeft) = some true) (kb14_NothingLeft : PySem.W.kitOne K (.ref c_NothingLeft) (.ref c_TooMany) = some false) (kb15_NothingLeft : PySem.W.kitOne K (.ref c_NothingLeft) (.type "ValueError") = some true)
    (e_NoCase : L2.ExcC K c_NoCase) (d_NoCase : PySem.W.kitOne K (.ref c_NoCase) (.ref c_DayError) = some true)
    (kb0_NoCase : PySem.W.kitOne K (.ref c_NoCase) (.ref c_AskedError) = some true) (kb1_NoCase : PySem.W.kitOne K (.ref c_NoCase) (.ref c_ToldError) = some false) (kb2_NoCase : PySem.W.kitOne K (.ref c_NoCase) (.ref c_Crowded) = some false) (kb3_NoCase : PySem.W.kitOne K (.ref c_NoCase) (.ref c_NoCase) = some true) (kb4_NoCase : PySem.W.kitOne K (.ref c_NoCase) (.ref c_NoCases) = some false) (kb5_NoCase : PySem.W.kitOne K (.ref c_NoCase) (.ref c_NoCount) = some false) (kb6_NoCase : PySem.W.kitOne K (.ref c_NoCase) (.ref c_NoHouse) = some false) (kb7_NoCase : PySem.W.kitOne K (.ref c_NoCase) (.ref c_NoLot) = some false) (kb8_NoCase : PySem.W.kitOne K (.ref c_NoCase) (.ref c_NoMinutes) = some false) (kb9_NoCase : PySem.W.kitOne K (.ref c_NoCase) (.ref c_NoPlan) = some false) (kb10_NoCase : PySem.W.kitOne K (.ref c_NoCase) (.ref c_NoRow) = some false) (kb11_NoCase : PySem.W.kitOne K (.ref c_NoCase) (.ref c_NoText) = some false) (kb12_NoCase : PySem.W.kitOne K (.ref c_NoCase) (.ref c_NotNow) = some false) (kb13_NoCase : PySem.W.kitOne K (.ref c_NoCase) (.ref c_NothingLeft) = some false) (kb14_NoCase : PySem.W.kitOne K (.ref c_NoCase) (.ref c_TooMany) = some false) (kb15_NoCase : PySem.W.kitOne K (.ref c_NoCase) (.type "ValueError") = some true)
    (e_NotNow : L2.ExcC K c_NotNow) (d_NotNow : PySem.W.kitOne K (.ref c_NotNow) (.ref c_DayError) = some true)
    (kb0_NotNow : PySem.W.kitOne K (.ref c_NotNow) (.ref c_AskedError) = some true) (kb1_NotNow : PySem.W.kitOne K (.ref c_NotNow) (.ref c_ToldError) = some false) (kb2_NotNow : PySem.W.kitOne K (.ref c_NotNow) (.ref c_Crowded) = some false) (kb3_NotNow : PySem.W.kitOne K (.ref c_NotNow) (.ref c_NoCase) = some false) (kb4_NotNow : PySem.W.kitOne K (.ref c_NotNow) (.ref c_NoCases) = some false) (kb5_NotNow : PySem.W.kitOne K (.ref c_NotNow) (.ref c_NoCount) = some false) (kb6_NotNow : PySem.W.kitOne K (.ref c_NotNow) (.ref c_NoHouse) = some false) (kb7_NotNow : PySem.W.kitOne K (.ref c_NotNow) (.ref c_NoLot) = some false) (kb8_NotNow : PySem.W.kitOne K (.ref c_NotNow) (.ref c_NoMinutes) = some false) (kb9_NotNow : PySem.W.kitOne K (.ref c_NotNow) (.ref c_NoPlan) = some false) (kb10_NotNow : PySem.W.kitOne K (.ref c_NotNow) (.ref c_NoRow) = some false) (kb11_NotNow : PySem.W.kitOne K (.ref c_NotNow) (.ref c_NoText) = some false) (kb12_NotNow : PySem.W.kitOne K (.ref c_NotNow) (.ref c_NotNow) = some true) (kb13_NotNow : PySem.W.kitOne K (.ref c_NotNow) (.ref c_NothingLeft) = some false) (kb14_NotNow : PySem.W.kitOne K (.ref c_NotNow) (.ref c_TooMany) = some false) (kb15_NotNow : PySem.W.kitOne K (.ref c_NotNow) (.type "ValueError") = some true)
    {nm_NoText q_NoText : Str} {nN_NoText fi_NoText : Addr} {cbs_NoText bm_NoText sub_NoText : List Value} {sn_NoText : List Str} {ab_NoText : Bool} {col_NoText : Option Bool} {dd_NoText : Option Addr} {k0_NoText k1_NoText k2_NoText k3_NoText k5_NoText : Option Value}
    (ol_NoText : K.lookup c_NoText = some (excClassObj nm_NoText q_NoText c_NoText nN_NoText cbs_NoText bm_NoText true sn_NoText sub_NoText ab_NoText col_NoText dd_NoText k0_NoText k1_NoText k2_NoText k3_NoText k5_NoText "ValueError.__new__")) (or_NoText : PySem.HandSPX.refsVE bm_NoText = true)
    (os_NoText : PySem.W.findIn K (.ref c_NoText) "__setattr__" = some (some (.builtin "object.__setattr__"))) (oe_NoText : PySem.W.subIn K (.ref c_NoText) (.type "BaseException") = some true) (ot_NoText : PySem.W.typeIn K (.ref c_NoText) = some (.type "type")) (ok_NoText : PySem.W.keepIn K (.ref c_NoText) = true)
    (f_NoText : PySem.W.findIn K (.ref c_NoText) "line" = some none) (g_NoText : XfC K c_NoText) (ii_NoText : PySem.W.findIn K (.ref c_NoText) "__init__" = some (some (.ref fi_NoText))) (it_NoText : PySem.W.typeIn K (.ref fi_NoText) = some (.type "function"))
    {ioc_NoText ikV_NoText idc_NoText ipm_NoText icd_NoText ict_NoText : Value} {iod_NoText ian_NoText : Option Addr} {isl_NoText : Array (Option Value)}
    {tT_NoText : Addr} {toc_NoText : Value} {tod_NoText : Option Addr} {tn_NoText : Nat} {tsl_NoText : Array (Option Value)}
    (il_NoText : K.lookup fi_NoText = some ⟨ioc_NoText, iod_NoText, .func (PySem.W.fnOf "__init__" "NoText.__init__" (defArgs s_i_NoText) (defBody s_i_NoText) (defScope s_i_NoText) (.ref tT_NoText) ikV_NoText idc_NoText ipm_NoText ian_NoText icd_NoText ict_NoText), isl_NoText⟩) (ic_NoText : PySem.W.codeIn K icd_NoText "NoText.__init__" = true) (ik_NoText : PySem.W.keepIn K (.ref fi_NoText) = true)
    (tl_NoText : K.lookup tT_NoText = some ⟨toc_NoText, tod_NoText, .seq #[.none] tn_NoText, tsl_NoText⟩)
    {nm_NoCase q_NoCase : Str} {nN_NoCase fi_NoCase : Addr} {cbs_NoCase bm_NoCase sub_NoCase : List Value} {sn_NoCase : List Str} {ab_NoCase : Bool} {col_NoCase : Option Bool} {dd_NoCase : Option Addr} {k0_NoCase k1_NoCase k2_NoCase k3_NoCase k5_NoCase : Option Value}
    (ol_NoCase : K.lookup c_NoCase = some (excClassObj nm_NoCase q_NoCase c_NoCase nN_NoCase cbs_NoCase bm_NoCase true sn_NoCase sub_NoCase ab_NoCase col_NoCase dd_NoCase k0_NoCase k1_NoCase k2_NoCase k3_NoCase k5_NoCase "ValueError.__new__")) (or_NoCase : PySem.HandSPX.refsVE bm_NoCase = true)
    (os_NoCase : PySem.W.findIn K (.ref c_NoCase) "__setattr__" = some (some (.builtin "object.__setattr__"))) (oe_NoCase : PySem.W.subIn K (.ref c_NoCase) (.type "BaseException") = some true) (ot_NoCase : PySem.W.typeIn K (.ref c_NoCase) = some (.type "type")) (ok_NoCase : PySem.W.keepIn K (.ref c_NoCase) = true)
    (f_NoCase : PySem.W.findIn K (.ref c_NoCase) "name" = some none) (g_NoCase : XfC K c_NoCase) (ii_NoCase : PySem.W.findIn K (.ref c_NoCase) "__init__" = some (some (.ref fi_NoCase))) (it_NoCase : PySem.W.typeIn K (.ref fi_NoCase) = some (.type "function"))
    {ioc_NoCase ikV_NoCase idc_NoCase ipm_NoCase icd_NoCase ict_NoCase : Value} {iod_NoCase ian_NoCase : Option Addr} {isl_NoCase : Array (Option Value)}
    (il_NoCase : K.lookup fi_NoCase = some ⟨ioc_NoCase, iod_NoCase, .func (PySem.W.fnOf "__init__" "NoCase.__init__" (defArgs s_i_NoCase) (defBody s_i_NoCase) (defScope s_i_NoCase) .none ikV_NoCase idc_NoCase ipm_NoCase ian_NoCase icd_NoCase ict_NoCase), isl_NoCase⟩) (ic_NoCase : PySem.W.codeIn K icd_NoCase "NoCase.__init__" = true) (ik_NoCase : PySem.W.keepIn K (.ref fi_NoCase) = true)
    {nm_NotNow q_NotNow : Str} {nN_NotNow fi_NotNow : Addr} {cbs_NotNow bm_NotNow sub_NotNow : List Value} {sn_NotNow : List Str} {ab_NotNow : Bool} {col_NotNow : Option Bool} {dd_NotNow : Option Addr} {k0_NotNow k1_NotNow k2_NotNow k3_NotNow k5_NotNow : Option Value}
    (ol_NotNow : K.lookup c_NotNow = some (excClassObj nm_NotNow q_NotNow c_NotNow nN_NotNow cbs_NotNow bm_NotNow true sn_NotNow sub_NotNow ab_NotNow col_NotNow dd_NotNow k0_NotNow k1_NotNow k2_NotNow k3_NotNow k5_NotNow "ValueError.__new__")) (or_NotNow : PySem.HandSPX.refsVE bm_NotNow = true)
    (os_NotNow : PySem.W.findIn K (.ref c_NotNow) "__setattr__" = some (some (.builtin "object.__setattr__"))) (oe_NotNow : PySem.W.subIn K (.ref c_NotNow) (.type "BaseException") = some true) (ot_NotNow : PySem.W.typeIn K (.ref c_NotNow) = some (.type "type")) (ok_NotNow : PySem.W.keepIn K (.ref c_NotNow) = true)
    (f_NotNow : PySem.W.findIn K (.ref c_NotNow) "name" = some none) (g_NotNow : XfC K c_NotNow) (ii_NotNow : PySem.W.findIn K (.ref c_NotNow) "__init__" = some (some (.ref fi_NotNow))) (it_NotNow : PySem.W.typeIn K (.ref fi_NotNow) = some (.type "function"))
    {ioc_NotNow ikV_NotNow idc_NotNow ipm_NotNow icd_NotNow ict_NotNow : Value} {iod_NotNow ian_NotNow : Option Addr} {isl_NotNow : Array (Option Value)}
    (il_NotNow : K.lookup fi_NotNow = some ⟨ioc_NotNow, iod_NotNow, .func (PySem.W.fnOf "__init__" "NotNow.__init__" (defArgs s_i_NotNow) (defBody s_i_NotNow) (defScope s_i_NotNow) .none ikV_NotNow idc_NotNow ipm_NotNow ian_NotNow icd_NotNow ict_NotNow), isl_NotNow⟩) (ic_NotNow : PySem.W.codeIn K icd_NotNow "NotNow.__init__" = true) (ik_NotNow : PySem.W.keepIn K (.ref fi_NotNow) = true)
    (bb_AskedError : ExcA.BaseI K c_AskedError)
    (bb_ToldError : ExcA.BaseI K c_ToldError)
    (z_ValueError : PySem.W.nsIn K mainGlobals "ValueError" = some none)
    (z_abs : PySem.W.nsIn K mainGlobals "abs" = some none)
    (z_int : PySem.W.nsIn K mainGlobals "int" = some none)
    (z_isinstance : PySem.W.nsIn K mainGlobals "isinstance" = some none)
    (z_len : PySem.W.nsIn K mainGlobals "len" = some none)
    (z_list : PySem.W.nsIn K mainGlobals "list" = some none)
    (z_min : PySem.W.nsIn K mainGlobals "min" = some none)
    (z_range : PySem.W.nsIn K mainGlobals "range" = some none)
    (z_tuple : PySem.W.nsIn K mainGlobals "tuple" = some none)
    : ∃ fd : FuncData, (∀ (s : Shared) (v : Value), BindsTo s fd ⟨[v], []⟩ [("script", v)]) ∧ ∀ base : Heap, K.In base → base.Ns mainGlobals mg → FnOk l.prog w K mg base CX0 4 fa fd ["script"] (spOf K R_law22) := by
  have e := hfa.symm.trans (PySem.W.mg_of X G a5)
  cases e
  have F0 := fun_mk (st := s__law_bag) l0 c0 k0
  have b0 := F0.binds (ps := ["script", "k"]) fun _ _ _ _ _ _ us hl => match us, hl with | [_, _], _ => rfl
  have F1 := fun_mk (st := s__law_take) l1 c1 k1
  have b1 := F1.binds (ps := ["bag", "many"]) fun _ _ _ _ _ _ us hl => match us, hl with | [_, _], _ => rfl
  have F2 := fun_mk (st := s__law_name) l2 c2 k2
  have b2 := F2.binds (ps := ["bag"]) fun _ _ _ _ _ _ us hl => match us, hl with | [_], _ => rfl
  have F3 := fun_mk (st := s_copied) l3 c3 k3
  have b3 := F3.binds (ps := ["thing"]) fun _ _ _ _ _ _ us hl => match us, hl with | [_], _ => rfl
  have F4 := fun_mk (st := s__law_kinds) l4 c4 k4
  have b4 := F4.binds (ps := ["e"]) fun _ _ _ _ _ _ us hl => match us, hl with | [_], _ => rfl
  have F5 := fun_mk (st := s_law) l5 c5 k5
  have b5 := F5.binds (ps := ["script"]) fun _ _ _ _ _ _ us hl => match us, hl with | [_], _ => rfl
  let cl : Cl := { DayError := c_DayError, ToldError := c_ToldError, AskedError := c_AskedError, NoHouse := c_NoHouse, NoCases := c_NoCases, NoPlan := c_NoPlan, NoCount := c_NoCount, NoMinutes := c_NoMinutes, NoLot := c_NoLot, NoText := c_NoText, NoRow := c_NoRow, NoCase := c_NoCase, NotNow := c_NotNow, TooMany := c_TooMany, Crowded := c_Crowded, NothingLeft := c_NothingLeft }
  have kb_NoHouse : KindB K cl c_NoHouse bs_NoHouse := by
    unfold KindB kcl bs_NoHouse
    simp only [List.map_cons, List.map_nil]
    rw [kb0_NoHouse, kb1_NoHouse, kb2_NoHouse, kb3_NoHouse, kb4_NoHouse, kb5_NoHouse, kb6_NoHouse, kb7_NoHouse, kb8_NoHouse, kb9_NoHouse, kb10_NoHouse, kb11_NoHouse, kb12_NoHouse, kb13_NoHouse, kb14_NoHouse, kb15_NoHouse]
  have kb_NoCases : KindB K cl c_NoCases bs_NoCases := by
    unfold KindB kcl bs_NoCases
    simp only [List.map_cons, List.map_nil]
    rw [kb0_NoCases, kb1_NoCases, kb2_NoCases, kb3_NoCases, kb4_NoCases, kb5_NoCases, kb6_NoCases, kb7_NoCases, kb8_NoCases, kb9_NoCases, kb10_NoCases, kb11_NoCases, kb12_NoCases, kb13_NoCases, kb14_NoCases, kb15_NoCases]
  have kb_NoPlan : KindB K cl c_NoPlan bs_NoPlan := by
    unfold KindB kcl bs_NoPlan
    simp only [List.map_cons, List.map_nil]
    rw [kb0_NoPlan, kb1_NoPlan, kb2_NoPlan, kb3_NoPlan, kb4_NoPlan, kb5_NoPlan, kb6_NoPlan, kb7_NoPlan, kb8_NoPlan, kb9_NoPlan, kb10_NoPlan, kb11_NoPlan, kb12_NoPlan, kb13_NoPlan, kb14_NoPlan, kb15_NoPlan]
  have kb_NoCount : KindB K cl c_NoCount bs_NoCount := by
    unfold KindB kcl bs_NoCount
    simp only [List.map_cons, List.map_nil]
    rw [kb0_NoCount, kb1_NoCount, kb2_NoCount, kb3_NoCount, kb4_NoCount, kb5_NoCount, kb6_NoCount, kb7_NoCount, kb8_NoCount, kb9_NoCount, kb10_NoCount, kb11_NoCount, kb12_NoCount, kb13_NoCount, kb14_NoCount, kb15_NoCount]
  have kb_NoMinutes : KindB K cl c_NoMinutes bs_NoMinutes := by
    unfold KindB kcl bs_NoMinutes
    simp only [List.map_cons, List.map_nil]
    rw [kb0_NoMinutes, kb1_NoMinutes, kb2_NoMinutes, kb3_NoMinutes, kb4_NoMinutes, kb5_NoMinutes, kb6_NoMinutes, kb7_NoMinutes, kb8_NoMinutes, kb9_NoMinutes, kb10_NoMinutes, kb11_NoMinutes, kb12_NoMinutes, kb13_NoMinutes, kb14_NoMinutes, kb15_NoMinutes]
  have kb_NoLot : KindB K cl c_NoLot bs_NoLot := by
    unfold KindB kcl bs_NoLot
    simp only [List.map_cons, List.map_nil]
    rw [kb0_NoLot, kb1_NoLot, kb2_NoLot, kb3_NoLot, kb4_NoLot, kb5_NoLot, kb6_NoLot, kb7_NoLot, kb8_NoLot, kb9_NoLot, kb10_NoLot, kb11_NoLot, kb12_NoLot, kb13_NoLot, kb14_NoLot, kb15_NoLot]
  have kb_NoRow : KindB K cl c_NoRow bs_NoRow := by
    unfold KindB kcl bs_NoRow
    simp only [List.map_cons, List.map_nil]
    rw [kb0_NoRow, kb1_NoRow, kb2_NoRow, kb3_NoRow, kb4_NoRow, kb5_NoRow, kb6_NoRow, kb7_NoRow, kb8_NoRow, kb9_NoRow, kb10_NoRow, kb11_NoRow, kb12_NoRow, kb13_NoRow, kb14_NoRow, kb15_NoRow]
  have kb_NoText : KindB K cl c_NoText bs_NoText := by
    unfold KindB kcl bs_NoText
    simp only [List.map_cons, List.map_nil]
    rw [kb0_NoText, kb1_NoText, kb2_NoText, kb3_NoText, kb4_NoText, kb5_NoText, kb6_NoText, kb7_NoText, kb8_NoText, kb9_NoText, kb10_NoText, kb11_NoText, kb12_NoText, kb13_NoText, kb14_NoText, kb15_NoText]
  have kb_TooMany : KindB K cl c_TooMany bs_TooMany := by
    unfold KindB kcl bs_TooMany
    simp only [List.map_cons, List.map_nil]
    rw [kb0_TooMany, kb1_TooMany, kb2_TooMany, kb3_TooMany, kb4_TooMany, kb5_TooMany, kb6_TooMany, kb7_TooMany, kb8_TooMany, kb9_TooMany, kb10_TooMany, kb11_TooMany, kb12_TooMany, kb13_TooMany, kb14_TooMany, kb15_TooMany]
  have kb_Crowded : KindB K cl c_Crowded bs_Crowded := by
    unfold KindB kcl bs_Crowded
    simp only [List.map_cons, List.map_nil]
    rw [kb0_Crowded, kb1_Crowded, kb2_Crowded, kb3_Crowded, kb4_Crowded, kb5_Crowded, kb6_Crowded, kb7_Crowded, kb8_Crowded, kb9_Crowded, kb10_Crowded, kb11_Crowded, kb12_Crowded, kb13_Crowded, kb14_Crowded, kb15_Crowded]
  have kb_NothingLeft : KindB K cl c_NothingLeft bs_NothingLeft := by
    unfold KindB kcl bs_NothingLeft
    simp only [List.map_cons, List.map_nil]
    rw [kb0_NothingLeft, kb1_NothingLeft, kb2_NothingLeft, kb3_NothingLeft, kb4_NothingLeft, kb5_NothingLeft, kb6_NothingLeft, kb7_NothingLeft, kb8_NothingLeft, kb9_NothingLeft, kb10_NothingLeft, kb11_NothingLeft, kb12_NothingLeft, kb13_NothingLeft, kb14_NothingLeft, kb15_NothingLeft]
  have kb_NoCase : KindB K cl c_NoCase bs_NoCase := by
    unfold KindB kcl bs_NoCase
    simp only [List.map_cons, List.map_nil]
    rw [kb0_NoCase, kb1_NoCase, kb2_NoCase, kb3_NoCase, kb4_NoCase, kb5_NoCase, kb6_NoCase, kb7_NoCase, kb8_NoCase, kb9_NoCase, kb10_NoCase, kb11_NoCase, kb12_NoCase, kb13_NoCase, kb14_NoCase, kb15_NoCase]
  have kb_NotNow : KindB K cl c_NotNow bs_NotNow := by
    unfold KindB kcl bs_NotNow
    simp only [List.map_cons, List.map_nil]
    rw [kb0_NotNow, kb1_NotNow, kb2_NotNow, kb3_NotNow, kb4_NotNow, kb5_NotNow, kb6_NotNow, kb7_NotNow, kb8_NotNow, kb9_NotNow, kb10_NotNow, kb11_NotNow, kb12_NotNow, kb13_NotNow, kb14_NotNow, kb15_NotNow]
  have cf : CF K cl := { x_NoHouse := x_NoHouse, k_NoHouse := xk_NoHouse, e_NoHouse := e_NoHouse, d_NoHouse := d_NoHouse, b_NoHouse := kb_NoHouse, x_NoCases := x_NoCases, k_NoCases := xk_NoCases, e_NoCases := e_NoCases, d_NoCases := d_NoCases, b_NoCases := kb_NoCases, x_NoPlan := x_NoPlan, k_NoPlan := xk_NoPlan, e_NoPlan := e_NoPlan, d_NoPlan := d_NoPlan, b_NoPlan := kb_NoPlan, x_NoCount := x_NoCount, k_NoCount := xk_NoCount, e_NoCount := e_NoCount, d_NoCount := d_NoCount, b_NoCount := kb_NoCount, x_NoMinutes := x_NoMinutes, k_NoMinutes := xk_NoMinutes, e_NoMinutes := e_NoMinutes, d_NoMinutes := d_NoMinutes, b_NoMinutes := kb_NoMinutes, x_NoLot := x_NoLot, k_NoLot := xk_NoLot, e_NoLot := e_NoLot, d_NoLot := d_NoLot, b_NoLot := kb_NoLot, x_NoRow := x_NoRow, k_NoRow := xk_NoRow, e_NoRow := e_NoRow, d_NoRow := d_NoRow, b_NoRow := kb_NoRow, o_NoText := ExcA.oex_mk ol_NoText or_NoText os_NoText oe_NoText ot_NoText ok_NoText, f_NoText := f_NoText, g_NoText := g_NoText, e_NoText := e_NoText, d_NoText := d_NoText, b_NoText := kb_NoText, x_TooMany := x_TooMany, k_TooMany := xk_TooMany, e_TooMany := e_TooMany, d_TooMany := d_TooMany, b_TooMany := kb_TooMany, x_Crowded := x_Crowded, k_Crowded := xk_Crowded, e_Crowded := e_Crowded, d_Crowded := d_Crowded, b_Crowded := kb_Crowded, x_NothingLeft := x_NothingLeft, k_NothingLeft := xk_NothingLeft, e_NothingLeft := e_NothingLeft, d_NothingLeft := d_NothingLeft, b_NothingLeft := kb_NothingLeft, o_NoCase := ExcA.oex_mk ol_NoCase or_NoCase os_NoCase oe_NoCase ot_NoCase ok_NoCase, f_NoCase := f_NoCase, g_NoCase := g_NoCase, e_NoCase := e_NoCase, d_NoCase := d_NoCase, b_NoCase := kb_NoCase, o_NotNow := ExcA.oex_mk ol_NotNow or_NotNow os_NotNow oe_NotNow ot_NotNow ok_NotNow, f_NotNow := f_NotNow, g_NotNow := g_NotNow, e_NotNow := e_NotNow, d_NotNow := d_NotNow, b_NotNow := kb_NotNow, b_AskedError := bb_AskedError, b_ToldError := bb_ToldError }
  have Fi_NoText := ExcA.fun_dfl il_NoText ic_NoText ik_NoText tl_NoText
  have bi_NoText : Binds K _ ["self", "line"] [] := ExcA.b_dfl Fi_NoText rfl fun _ _ _ _ _ _ _ us its hu hi => match us, its, hu, hi with | [_, _], [_], _, _ => ⟨_, rfl, rfl⟩
  have qi_NoText_0 : ExcA.KwM K _ ["self", "line"] [] [.none] := ExcA.kwm_dfl [.none] Fi_NoText fun _ _ _ _ _ _ _ _ ws hl => match ws, hl with | [], _ => ⟨_, rfl, rfl⟩
  have qi_NoText_1 : ExcA.KwM K _ ["self", "line"] ["line"] [] := ExcA.kwm_dfl [] Fi_NoText fun _ _ _ _ _ _ _ _ ws hl => match ws, hl with | [_], _ => ⟨_, rfl, rfl⟩
  have Fi_NoCase := fun_mk (st := s_i_NoCase) il_NoCase ic_NoCase ik_NoCase
  have bi_NoCase := Fi_NoCase.binds (ps := ["self", "name"]) fun _ _ _ _ _ _ us hl => match us, hl with | [_, _], _ => rfl
  have qi_NoCase_1 : ExcA.KwM K _ ["self", "name"] ["name"] [] := ExcA.kwm_fun Fi_NoCase fun _ _ _ _ _ _ _ ws hl => match ws, hl with | [_], _ => rfl
  have Fi_NotNow := fun_mk (st := s_i_NotNow) il_NotNow ic_NotNow ik_NotNow
  have bi_NotNow := Fi_NotNow.binds (ps := ["self", "name"]) fun _ _ _ _ _ _ us hl => match us, hl with | [_, _], _ => rfl
  have qi_NotNow_1 : ExcA.KwM K _ ["self", "name"] ["name"] [] := ExcA.kwm_fun Fi_NotNow fun _ _ _ _ _ _ _ ws hl => match ws, hl with | [_], _ => rfl
  let T : Txt K mg := { a__law_bag := f0, fd__law_bag := _, F__law_bag := F0, m__law_bag := PySem.W.mg_of X G a0, b__law_bag := b0, a__law_take := f1, fd__law_take := _, F__law_take := F1, m__law_take := PySem.W.mg_of X G a1, b__law_take := b1, a__law_name := f2, fd__law_name := _, F__law_name := F2, m__law_name := PySem.W.mg_of X G a2, b__law_name := b2, a_copied := f3, fd_copied := _, F_copied := F3, m_copied := PySem.W.mg_of X G a3, b_copied := b3, a__law_kinds := f4, fd__law_kinds := _, F__law_kinds := F4, m__law_kinds := PySem.W.mg_of X G a4, b__law_kinds := b4, a_law := fa, fd_law := _, F_law := F5, m_law := PySem.W.mg_of X G a5, b_law := b5, cl := cl, cf := cf, n_AskedError := PySem.W.mg_of X G ac_AskedError, n_Crowded := PySem.W.mg_of X G ac_Crowded, n_DayError := PySem.W.mg_of X G ac_DayError, n_NoCase := PySem.W.mg_of X G ac_NoCase, n_NoCases := PySem.W.mg_of X G ac_NoCases, n_NoCount := PySem.W.mg_of X G ac_NoCount, n_NoHouse := PySem.W.mg_of X G ac_NoHouse, n_NoLot := PySem.W.mg_of X G ac_NoLot, n_NoMinutes := PySem.W.mg_of X G ac_NoMinutes, n_NoPlan := PySem.W.mg_of X G ac_NoPlan, n_NoRow := PySem.W.mg_of X G ac_NoRow, n_NoText := PySem.W.mg_of X G ac_NoText, n_NotNow := PySem.W.mg_of X G ac_NotNow, n_NothingLeft := PySem.W.mg_of X G ac_NothingLeft, n_ToldError := PySem.W.mg_of X G ac_ToldError, n_TooMany := PySem.W.mg_of X G ac_TooMany, fi_NoText := fi_NoText, fdi_NoText := _, Fi_NoText := Fi_NoText, i_NoText := ⟨ExcA.oex_mk ol_NoText or_NoText os_NoText oe_NoText ot_NoText ok_NoText, ii_NoText, it_NoText⟩, bi_NoText := bi_NoText, qi_NoText_0 := qi_NoText_0, qi_NoText_1 := qi_NoText_1, fi_NoCase := fi_NoCase, fdi_NoCase := _, Fi_NoCase := Fi_NoCase, i_NoCase := ⟨ExcA.oex_mk ol_NoCase or_NoCase os_NoCase oe_NoCase ot_NoCase ok_NoCase, ii_NoCase, it_NoCase⟩, bi_NoCase := bi_NoCase, qi_NoCase_1 := qi_NoCase_1, fi_NotNow := fi_NotNow, fdi_NotNow := _, Fi_NotNow := Fi_NotNow, i_NotNow := ⟨ExcA.oex_mk ol_NotNow or_NotNow os_NotNow oe_NotNow ot_NotNow ok_NotNow, ii_NotNow, it_NotNow⟩, bi_NotNow := bi_NotNow, qi_NotNow_1 := qi_NotNow_1, z_ValueError := PySem.W.mg_none_of X G z_ValueError, z_abs := PySem.W.mg_none_of X G z_abs, z_int := PySem.W.mg_none_of X G z_int, z_isinstance := PySem.W.mg_none_of X G z_isinstance, z_len := PySem.W.mg_none_of X G z_len, z_list := PySem.W.mg_none_of X G z_list, z_min := PySem.W.mg_none_of X G z_min, z_range := PySem.W.mg_none_of X G z_range, z_tuple := PySem.W.mg_none_of X G z_tuple }
  exact ⟨T.fd_law, fun s v => .of_eq rfl, fun base _ _ => ok_law T⟩
theorem law_start {K : PySem.W.Frag} {H : Hp} {a : Addr} {ns : List Int} (hS : SqL K H a (ns.map V.int)) : spOf K R_law22 [.ref a] H (fun v _ => v = .bl true) fun _ _ _ => False :=
  ⟨H, [], [.s ns], [], fun d _ => d = .bool true, (Fr.refl (as := []) (I := H) (H := H) (fun _ _ e => e)).ii, .nil, .cons (.s hS) .nil, ⟨ns, rfl, rfl, rfl⟩, fun v I' H' d g' _ _ i p => by subst p; exact is_bl i⟩
end K22
-- LAST
open PySem PySem.W PyProof.Rows
set_option maxHeartbeats 0 in
theorem PySem.Challenge.cw_roomsday_k22_refusals_apart_holds : PySem.Challenge.rw_roomsday_k22_refusals_apart.Holds := by
  w_on; o_law; k_head; (case hw => w_witness2)
  k_fill
  refine L2.walk_of (l := PySem.Challenge.rw_roomsday_k22_refusals_apart) (n := 63) (k := 4) (x := "script") (CX := fun _ => L2.CX0) (sp := fun w => Go.spOf _ Go.R_law22) rfl (by decide) rfl ⟨rfl, by decide, by decide⟩ (fun w h Y => PySem.W.kIn_of Y) ?F (fun _ _ a ns hl _ hS => K22.law_start hS) (fun _ _ _ _ _ h => h)
  case F =>
    intro w mg fa h KX G hmg
    refine' K22.all_mk KX G hmg ?a0 ?l0 ?c0 ?k0 ?a1 ?l1 ?c1 ?k1 ?a2 ?l2 ?c2 ?k2 ?a3 ?l3 ?c3 ?k3 ?a4 ?l4 ?c4 ?k4 ?a5 ?l5 ?c5 ?k5 ?ac_DayError ?ac_ToldError ?ac_AskedError ?ac_NoHouse ?ac_NoCases ?ac_NoPlan ?ac_NoCount ?ac_NoMinutes ?ac_NoLot ?ac_NoText ?ac_NoRow ?ac_NoCase ?ac_NotNow ?ac_TooMany ?ac_Crowded ?ac_NothingLeft ?x_NoHouse ?xk_NoHouse ?e_NoHouse ?d_NoHouse ?kb0_NoHouse ?kb1_NoHouse ?kb2_NoHouse ?kb3_NoHouse ?kb4_NoHouse ?kb5_NoHouse ?kb6_NoHouse ?kb7_NoHouse ?kb8_NoHouse ?kb9_NoHouse ?kb10_NoHouse ?kb11_NoHouse ?kb12_NoHouse ?kb13_NoHouse ?kb14_NoHouse ?kb15_NoHouse ?x_NoCases ?xk_NoCases ?e_NoCases ?d_NoCases ?kb0_NoCases ?kb1_NoCases ?kb2_NoCases ?kb3_NoCases ?kb4_NoCases ?kb5_NoCases ?kb6_NoCases ?kb7_NoCases ?kb8_NoCases ?kb9_NoCases ?kb10_NoCases ?kb11_NoCases ?kb12_NoCases ?kb13_NoCases ?kb14_NoCases ?kb15_NoCases ?x_NoPlan ?xk_NoPlan ?e_NoPlan ?d_NoPlan ?kb0_NoPlan ?kb1_NoPlan ?kb2_NoPlan ?kb3_NoPlan ?kb4_NoPlan ?kb5_NoPlan ?kb6_NoPlan ?kb7_NoPlan ?kb8_NoPlan ?kb9_NoPlan ?kb10_NoPlan ?kb11_NoPlan ?kb12_NoPlan ?kb13_NoPlan ?kb14_NoPlan ?kb15_NoPlan ?x_NoCount ?xk_NoCount ?e_NoCount ?d_NoCount ?kb0_NoCount ?kb1_NoCount ?kb2_NoCount ?kb3_NoCount ?kb4_NoCount ?kb5_NoCount ?kb6_NoCount ?kb7_NoCount ?kb8_NoCount ?kb9_NoCount ?kb10_NoCount ?kb11_NoCount ?kb12_NoCount ?kb13_NoCount ?kb14_NoCount ?kb15_NoCount ?x_NoMinutes ?xk_NoMinutes ?e_NoMinutes ?d_NoMinutes ?kb0_NoMinutes ?kb1_NoMinutes ?kb2_NoMinutes ?kb3_NoMinutes ?kb4_NoMinutes ?kb5_NoMinutes ?kb6_NoMinutes ?kb7_NoMinutes ?kb8_NoMinutes ?kb9_NoMinutes ?kb10_NoMinutes ?kb11_NoMinutes ?kb12_NoMinutes ?kb13_NoMinutes ?kb14_NoMinutes ?kb15_NoMinutes ?x_NoLot ?xk_NoLot ?e_NoLot ?d_NoLot ?kb0_NoLot ?kb1_NoLot ?kb2_NoLot ?kb3_NoLot ?kb4_NoLot ?kb5_NoLot ?kb6_NoLot ?kb7_NoLot ?kb8_NoLot ?kb9_NoLot ?kb10_NoLot ?kb11_NoLot ?kb12_NoLot ?kb13_NoLot ?kb14_NoLot ?kb15_NoLot ?x_NoRow ?xk_NoRow ?e_NoRow ?d_NoRow ?kb0_NoRow ?kb1_NoRow ?kb2_NoRow ?kb3_NoRow ?kb4_NoRow ?kb5_NoRow ?kb6_NoRow ?kb7_NoRow ?kb8_NoRow ?kb9_NoRow ?kb10_NoRow ?kb11_NoRow ?kb12_NoRow ?kb13_NoRow ?kb14_NoRow ?kb15_NoRow ?e_NoText ?d_NoText ?kb0_NoText ?kb1_NoText ?kb2_NoText ?kb3_NoText ?kb4_NoText ?kb5_NoText ?kb6_NoText ?kb7_NoText ?kb8_NoText ?kb9_NoText ?kb10_NoText ?kb11_NoText ?kb12_NoText ?kb13_NoText ?kb14_NoText ?kb15_NoText ?x_TooMany ?xk_TooMany ?e_TooMany ?d_TooMany ?kb0_TooMany ?kb1_TooMany ?kb2_TooMany ?kb3_TooMany ?kb4_TooMany ?kb5_TooMany ?kb6_TooMany ?kb7_TooMany ?kb8_TooMany ?kb9_TooMany ?kb10_TooMany ?kb11_TooMany ?kb12_TooMany ?kb13_TooMany ?kb14_TooMany ?kb15_TooMany ?x_Crowded ?xk_Crowded ?e_Crowded ?d_Crowded ?kb0_Crowded ?kb1_Crowded ?kb2_Crowded ?kb3_Crowded ?kb4_Crowded ?kb5_Crowded ?kb6_Crowded ?kb7_Crowded ?kb8_Crowded ?kb9_Crowded ?kb10_Crowded ?kb11_Crowded ?kb12_Crowded ?kb13_Crowded ?kb14_Crowded ?kb15_Crowded ?x_NothingLeft ?xk_NothingLeft ?e_NothingLeft ?d_NothingLeft ?kb0_NothingLeft ?kb1_NothingLeft ?kb2_NothingLeft ?kb3_NothingLeft ?kb4_NothingLeft ?kb5_NothingLeft ?kb6_NothingLeft ?kb7_NothingLeft ?kb8_NothingLeft ?kb9_NothingLeft ?kb10_NothingLeft ?kb11_NothingLeft ?kb12_NothingLeft ?kb13_NothingLeft ?kb14_NothingLeft ?kb15_NothingLeft ?e_NoCase ?d_NoCase ?kb0_NoCase ?kb1_NoCase ?kb2_NoCase ?kb3_NoCase ?kb4_NoCase ?kb5_NoCase ?kb6_NoCase ?kb7_NoCase ?kb8_NoCase ?kb9_NoCase ?kb10_NoCase ?kb11_NoCase ?kb12_NoCase ?kb13_NoCase ?kb14_NoCase ?kb15_NoCase ?e_NotNow ?d_NotNow ?kb0_NotNow ?kb1_NotNow ?kb2_NotNow ?kb3_NotNow ?kb4_NotNow ?kb5_NotNow ?kb6_NotNow ?kb7_NotNow ?kb8_NotNow ?kb9_NotNow ?kb10_NotNow ?kb11_NotNow ?kb12_NotNow ?kb13_NotNow ?kb14_NotNow ?kb15_NotNow ?ol_NoText ?or_NoText ?os_NoText ?oe_NoText ?ot_NoText ?ok_NoText ?f_NoText ?g_NoText ?ii_NoText ?it_NoText ?il_NoText ?ic_NoText ?ik_NoText ?tl_NoText ?ol_NoCase ?or_NoCase ?os_NoCase ?oe_NoCase ?ot_NoCase ?ok_NoCase ?f_NoCase ?g_NoCase ?ii_NoCase ?it_NoCase ?il_NoCase ?ic_NoCase ?ik_NoCase ?ol_NotNow ?or_NotNow ?os_NotNow ?oe_NotNow ?ot_NotNow ?ok_NotNow ?f_NotNow ?g_NotNow ?ii_NotNow ?it_NotNow ?il_NotNow ?ic_NotNow ?ik_NotNow ?bb_AskedError ?bb_ToldError ?z_ValueError ?z_abs ?z_int ?z_isinstance ?z_len ?z_list ?z_min ?z_range ?z_tuple
    (case a0 => k_is); (case l0 => k_is); (case c0 => k_is); (case k0 => k_is); (case a1 => k_is); (case l1 => k_is); (case c1 => k_is); (case k1 => k_is); (case a2 => k_is); (case l2 => k_is); (case c2 => k_is); (case k2 => k_is); (case a3 => k_is); (case l3 => k_is); (case c3 => k_is); (case k3 => k_is); (case a4 => k_is); (case l4 => k_is); (case c4 => k_is); (case k4 => k_is); (case a5 => k_is); (case l5 => k_is); (case c5 => k_is); (case k5 => k_is); (case ac_DayError => k_is); (case ac_ToldError => k_is); (case ac_AskedError => k_is); (case ac_NoHouse => k_is); (case ac_NoCases => k_is); (case ac_NoPlan => k_is); (case ac_NoCount => k_is); (case ac_NoMinutes => k_is); (case ac_NoLot => k_is); (case ac_NoText => k_is); (case ac_NoRow => k_is); (case ac_NoCase => k_is); (case ac_NotNow => k_is); (case ac_TooMany => k_is); (case ac_Crowded => k_is); (case ac_NothingLeft => k_is); (case x_NoHouse => kernel_rfl); (case xk_NoHouse => k_is); (case e_NoHouse => refine ⟨?_, ?_, ?_, ?_, ?_, ?_, ?_, ?_⟩ <;> k_is); (case d_NoHouse => kit_is); (case kb0_NoHouse => kit_is); (case kb1_NoHouse => kit_is); (case kb2_NoHouse => kit_is); (case kb3_NoHouse => kit_is); (case kb4_NoHouse => kit_is); (case kb5_NoHouse => kit_is); (case kb6_NoHouse => kit_is); (case kb7_NoHouse => kit_is); (case kb8_NoHouse => kit_is); (case kb9_NoHouse => kit_is); (case kb10_NoHouse => kit_is); (case kb11_NoHouse => kit_is); (case kb12_NoHouse => kit_is); (case kb13_NoHouse => kit_is); (case kb14_NoHouse => kit_is); (case kb15_NoHouse => kit_is); (case x_NoCases => kernel_rfl); (case xk_NoCases => k_is); (case e_NoCases => refine ⟨?_, ?_, ?_, ?_, ?_, ?_, ?_, ?_⟩ <;> k_is); (case d_NoCases => kit_is); (case kb0_NoCases => kit_is); (case kb1_NoCases => kit_is); (case kb2_NoCases => kit_is); (case kb3_NoCases => kit_is); (case kb4_NoCases => kit_is); (case kb5_NoCases => kit_is); (case kb6_NoCases => kit_is); (case kb7_NoCases => kit_is); (case kb8_NoCases => kit_is); (case kb9_NoCases => kit_is); (case kb10_NoCases => kit_is); (case kb11_NoCases => kit_is); (case kb12_NoCases => kit_is); (case kb13_NoCases => kit_is); (case kb14_NoCases => kit_is); (case kb15_NoCases => kit_is); (case x_NoPlan => kernel_rfl); (case xk_NoPlan => k_is); (case e_NoPlan => refine ⟨?_, ?_, ?_, ?_, ?_, ?_, ?_, ?_⟩ <;> k_is); (case d_NoPlan => kit_is); (case kb0_NoPlan => kit_is); (case kb1_NoPlan => kit_is); (case kb2_NoPlan => kit_is); (case kb3_NoPlan => kit_is); (case kb4_NoPlan => kit_is); (case kb5_NoPlan => kit_is); (case kb6_NoPlan => kit_is); (case kb7_NoPlan => kit_is); (case kb8_NoPlan => kit_is); (case kb9_NoPlan => kit_is); (case kb10_NoPlan => kit_is); (case kb11_NoPlan => kit_is); (case kb12_NoPlan => kit_is); (case kb13_NoPlan => kit_is); (case kb14_NoPlan => kit_is); (case kb15_NoPlan => kit_is); (case x_NoCount => kernel_rfl); (case xk_NoCount => k_is); (case e_NoCount => refine ⟨?_, ?_, ?_, ?_, ?_, ?_, ?_, ?_⟩ <;> k_is); (case d_NoCount => kit_is); (case kb0_NoCount => kit_is); (case kb1_NoCount => kit_is); (case kb2_NoCount => kit_is); (case kb3_NoCount => kit_is); (case kb4_NoCount => kit_is); (case kb5_NoCount => kit_is); (case kb6_NoCount => kit_is); (case kb7_NoCount => kit_is); (case kb8_NoCount => kit_is); (case kb9_NoCount => kit_is); (case kb10_NoCount => kit_is); (case kb11_NoCount => kit_is); (case kb12_NoCount => kit_is); (case kb13_NoCount => kit_is); (case kb14_NoCount => kit_is); (case kb15_NoCount => kit_is); (case x_NoMinutes => kernel_rfl); (case xk_NoMinutes => k_is); (case e_NoMinutes => refine ⟨?_, ?_, ?_, ?_, ?_, ?_, ?_, ?_⟩ <;> k_is); (case d_NoMinutes => kit_is); (case kb0_NoMinutes => kit_is); (case kb1_NoMinutes => kit_is); (case kb2_NoMinutes => kit_is); (case kb3_NoMinutes => kit_is); (case kb4_NoMinutes => kit_is); (case kb5_NoMinutes => kit_is); (case kb6_NoMinutes => kit_is); (case kb7_NoMinutes => kit_is); (case kb8_NoMinutes => kit_is); (case kb9_NoMinutes => kit_is); (case kb10_NoMinutes => kit_is); (case kb11_NoMinutes => kit_is); (case kb12_NoMinutes => kit_is); (case kb13_NoMinutes => kit_is); (case kb14_NoMinutes => kit_is); (case kb15_NoMinutes => kit_is); (case x_NoLot => kernel_rfl); (case xk_NoLot => k_is); (case e_NoLot => refine ⟨?_, ?_, ?_, ?_, ?_, ?_, ?_, ?_⟩ <;> k_is); (case d_NoLot => kit_is); (case kb0_NoLot => kit_is); (case kb1_NoLot => kit_is); (case kb2_NoLot => kit_is); (case kb3_NoLot => kit_is); (case kb4_NoLot => kit_is); (case kb5_NoLot => kit_is); (case kb6_NoLot => kit_is); (case kb7_NoLot => kit_is); (case kb8_NoLot => kit_is); (case kb9_NoLot => kit_is); (case kb10_NoLot => kit_is); (case kb11_NoLot => kit_is); (case kb12_NoLot => kit_is); (case kb13_NoLot => kit_is); (case kb14_NoLot => kit_is); (case kb15_NoLot => kit_is); (case x_NoRow => kernel_rfl); (case xk_NoRow => k_is); (case e_NoRow => refine ⟨?_, ?_, ?_, ?_, ?_, ?_, ?_, ?_⟩ <;> k_is); (case d_NoRow => kit_is); (case kb0_NoRow => kit_is); (case kb1_NoRow => kit_is); (case kb2_NoRow => kit_is); (case kb3_NoRow => kit_is); (case kb4_NoRow => kit_is); (case kb5_NoRow => kit_is); (case kb6_NoRow => kit_is); (case kb7_NoRow => kit_is); (case kb8_NoRow => kit_is); (case kb9_NoRow => kit_is); (case kb10_NoRow => kit_is); (case kb11_NoRow => kit_is); (case kb12_NoRow => kit_is); (case kb13_NoRow => kit_is); (case kb14_NoRow => kit_is); (case kb15_NoRow => kit_is); (case e_NoText => refine ⟨?_, ?_, ?_, ?_, ?_, ?_, ?_, ?_⟩ <;> k_is); (case d_NoText => kit_is); (case kb0_NoText => kit_is); (case kb1_NoText => kit_is); (case kb2_NoText => kit_is); (case kb3_NoText => kit_is); (case kb4_NoText => kit_is); (case kb5_NoText => kit_is); (case kb6_NoText => kit_is); (case kb7_NoText => kit_is); (case kb8_NoText => kit_is); (case kb9_NoText => kit_is); (case kb10_NoText => kit_is); (case kb11_NoText => kit_is); (case kb12_NoText => kit_is); (case kb13_NoText => kit_is); (case kb14_NoText => kit_is); (case kb15_NoText => kit_is); (case x_TooMany => kernel_rfl); (case xk_TooMany => k_is); (case e_TooMany => refine ⟨?_, ?_, ?_, ?_, ?_, ?_, ?_, ?_⟩ <;> k_is); (case d_TooMany => kit_is); (case kb0_TooMany => kit_is); (case kb1_TooMany => kit_is); (case kb2_TooMany => kit_is); (case kb3_TooMany => kit_is); (case kb4_TooMany => kit_is); (case kb5_TooMany => kit_is); (case kb6_TooMany => kit_is); (case kb7_TooMany => kit_is); (case kb8_TooMany => kit_is); (case kb9_TooMany => kit_is); (case kb10_TooMany => kit_is); (case kb11_TooMany => kit_is); (case kb12_TooMany => kit_is); (case kb13_TooMany => kit_is); (case kb14_TooMany => kit_is); (case kb15_TooMany => kit_is); (case x_Crowded => kernel_rfl); (case xk_Crowded => k_is); (case e_Crowded => refine ⟨?_, ?_, ?_, ?_, ?_, ?_, ?_, ?_⟩ <;> k_is); (case d_Crowded => kit_is); (case kb0_Crowded => kit_is); (case kb1_Crowded => kit_is); (case kb2_Crowded => kit_is); (case kb3_Crowded => kit_is); (case kb4_Crowded => kit_is); (case kb5_Crowded => kit_is); (case kb6_Crowded => kit_is); (case kb7_Crowded => kit_is); (case kb8_Crowded => kit_is); (case kb9_Crowded => kit_is); (case kb10_Crowded => kit_is); (case kb11_Crowded => kit_is); (case kb12_Crowded => kit_is); (case kb13_Crowded => kit_is); (case kb14_Crowded => kit_is); (case kb15_Crowded => kit_is); (case x_NothingLeft => kernel_rfl); (case xk_NothingLeft => k_is); (case e_NothingLeft => refine ⟨?_, ?_, ?_, ?_, ?_, ?_, ?_, ?_⟩ <;> k_is); (case d_NothingLeft => kit_is); (case kb0_NothingLeft => kit_is); (case kb1_NothingLeft => kit_is); (case kb2_NothingLeft => kit_is); (case kb3_NothingLeft => kit_is); (case kb4_NothingLeft => kit_is); (case kb5_NothingLeft => kit_is); (case kb6_NothingLeft => kit_is); (case kb7_NothingLeft => kit_is); (case kb8_NothingLeft => kit_is); (case kb9_NothingLeft => kit_is); (case kb10_NothingLeft => kit_is); (case kb11_NothingLeft => kit_is); (case kb12_NothingLeft => kit_is); (case kb13_NothingLeft => kit_is); (case kb14_NothingLeft => kit_is); (case kb15_NothingLeft => kit_is); (case e_NoCase => refine ⟨?_, ?_, ?_, ?_, ?_, ?_, ?_, ?_⟩ <;> k_is); (case d_NoCase => kit_is); (case kb0_NoCase => kit_is); (case kb1_NoCase => kit_is); (case kb2_NoCase => kit_is); (case kb3_NoCase => kit_is); (case kb4_NoCase => kit_is); (case kb5_NoCase => kit_is); (case kb6_NoCase => kit_is); (case kb7_NoCase => kit_is); (case kb8_NoCase => kit_is); (case kb9_NoCase => kit_is); (case kb10_NoCase => kit_is); (case kb11_NoCase => kit_is); (case kb12_NoCase => kit_is); (case kb13_NoCase => kit_is); (case kb14_NoCase => kit_is); (case kb15_NoCase => kit_is); (case e_NotNow => refine ⟨?_, ?_, ?_, ?_, ?_, ?_, ?_, ?_⟩ <;> k_is); (case d_NotNow => kit_is); (case kb0_NotNow => kit_is); (case kb1_NotNow => kit_is); (case kb2_NotNow => kit_is); (case kb3_NotNow => kit_is); (case kb4_NotNow => kit_is); (case kb5_NotNow => kit_is); (case kb6_NotNow => kit_is); (case kb7_NotNow => kit_is); (case kb8_NotNow => kit_is); (case kb9_NotNow => kit_is); (case kb10_NotNow => kit_is); (case kb11_NotNow => kit_is); (case kb12_NotNow => kit_is); (case kb13_NotNow => kit_is); (case kb14_NotNow => kit_is); (case kb15_NotNow => kit_is); (case ol_NoText => k_is); (case or_NoText => kernel_rfl); (case os_NoText => k_is); (case oe_NoText => k_is); (case ot_NoText => k_is); (case ok_NoText => k_is); (case f_NoText => k_is); (case g_NoText => refine ⟨?_, ?_, ?_, ?_⟩ <;> k_is); (case ii_NoText => k_is); (case it_NoText => k_is); (case il_NoText => k_is); (case ic_NoText => k_is); (case ik_NoText => k_is); (case tl_NoText => k_is); (case ol_NoCase => k_is); (case or_NoCase => kernel_rfl); (case os_NoCase => k_is); (case oe_NoCase => k_is); (case ot_NoCase => k_is); (case ok_NoCase => k_is); (case f_NoCase => k_is); (case g_NoCase => refine ⟨?_, ?_, ?_, ?_⟩ <;> k_is); (case ii_NoCase => k_is); (case it_NoCase => k_is); (case il_NoCase => k_is); (case ic_NoCase => k_is); (case ik_NoCase => k_is); (case ol_NotNow => k_is); (case or_NotNow => kernel_rfl); (case os_NotNow => k_is); (case oe_NotNow => k_is); (case ot_NotNow => k_is); (case ok_NotNow => k_is); (case f_NotNow => k_is); (case g_NotNow => refine ⟨?_, ?_, ?_, ?_⟩ <;> k_is); (case ii_NotNow => k_is); (case it_NotNow => k_is); (case il_NotNow => k_is); (case ic_NotNow => k_is); (case ik_NotNow => k_is); (case bb_AskedError => refine ⟨?_, ?_, ?_⟩ <;> k_is); (case bb_ToldError => refine ⟨?_, ?_, ?_⟩ <;> k_is); (case z_ValueError => k_is); (case z_abs => k_is); (case z_int => k_is); (case z_isinstance => k_is); (case z_len => k_is); (case z_list => k_is); (case z_min => k_is); (case z_range => k_is); (case z_tuple => k_is)
