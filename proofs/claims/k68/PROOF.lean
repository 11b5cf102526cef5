import PyProof.Rows.All
import Wide.All
import OpenK.AllK
import Wide.FinOn
import HandS.ForMost
import HandS.WordsExc
import HandS.ExcOwn
import HandS.CallSlots
import HandS.ExcInit
import HandS.TryMany
import HandS.Wide
import HandS.IsInst
import HandS.TupAny
import HandS.Star
import HandS.SortInts
import HandS.Flow
import HandS.Gcd
import HandS.Defaults
import HandS.Style
import HandS.More
import PyProof.P3Eq
import KE.GoesEnum
import HandS.TupSets
import HandS.Conv
import HandS.ExcField
import HandS.TryOnly
import HandS.Zip
import KE.GoesZip
import KE.GoesMore
import KE.KTupSum
import HandS.Flt
import PySem.Challenge.RW_quaybest_k68_moves
set_option Elab.async false
set_option linter.all false
set_option maxRecDepth 100000
/-! Data as trees over the hand layer: what a value is worth, who owns it, and a word for each construct that speaks of data alone. -/
namespace DL
open PySem PySem.Spec PyProof.Rows L2

inductive D where
  | hole | non
  | bl (b : Bool)
  | int (i : Int)
  | str (x : Str)
  | cv (v : V)
  | tup (l : List D)
  | lsk (l : List D)
  | lst (m : Option Addr) (l : List D)
  | dct (m : Option Addr) (ks : List Key) (l : List D)
  | ins (m : Option Addr) (C : Addr) (ns : List Str) (l : List D)

mutual
def own : D → List Addr
  | .tup l => owns l
  | .lsk l => owns l
  | .lst m l => m.toList ++ owns l
  | .dct m _ l => m.toList ++ owns l
  | .ins m _ _ l => m.toList ++ owns l
  | .hole => []
  | .non => []
  | .bl _ => []
  | .int _ => []
  | .str _ => []
  | .cv _ => []
def owns : List D → List Addr
  | [] => []
  | d :: r => own d ++ owns r
end

mutual
def frz : D → D
  | .tup l => .tup (frzs l)
  | .lsk l => .lsk (frzs l)
  | .lst _ l => .lst none (frzs l)
  | .dct _ ks l => .dct none ks (frzs l)
  | .ins _ C ns l => .ins none C ns (frzs l)
  | .hole => .hole
  | .non => .non
  | .bl b => .bl b
  | .int i => .int i
  | .str x => .str x
  | .cv v => .cv v
def frzs : List D → List D
  | [] => []
  | d :: r => frz d :: frzs r
end

mutual
def Rep (K : PySem.W.Frag) (Z H : Hp) : D → V → Prop
  | .hole, _ => True
  | .non, v => v = .non
  | .bl b, v => v = .bl b
  | .int i, v => v = .int i
  | .str x, v => v = .str x
  | .cv u, v => v = u
  | .tup l, v => owns l = [] ∧ ∃ a vs, v = .ref a ∧ SqT K Z a vs ∧ Reps K Z H l vs
  | .lsk l, v => owns l = [] ∧ ∃ a vs, v = .ref a ∧ SqL K Z a vs ∧ Reps K Z H l vs
  | .lst none l, v => owns l = [] ∧ ∃ a vs, v = .ref a ∧ Z a = some (.lst vs) ∧ Reps K Z H l vs
  | .lst (some a) l, v => v = .ref a ∧ Z a = none ∧ ∃ vs, H a = some (.lst vs) ∧ Reps K Z H l vs
  | .dct none ks l, v => owns l = [] ∧ ∃ a kvs, v = .ref a ∧ Z a = some (.dK kvs) ∧ kvs.map (·.1) = ks ∧ Reps K Z H l (kvs.map (·.2))
  | .dct (some a) ks l, v => v = .ref a ∧ Z a = none ∧ ∃ kvs, H a = some (.dK kvs) ∧ kvs.map (·.1) = ks ∧ Reps K Z H l (kvs.map (·.2))
  | .ins none C ns l, v => owns l = [] ∧ ∃ a dx fs, v = .ref a ∧ Z a = some (.ins C dx fs) ∧ fs.map (·.1) = ns ∧ Reps K Z H l (fs.map (·.2))
  | .ins (some a) C ns l, v => v = .ref a ∧ Z a = none ∧ ∃ dx fs, H a = some (.ins C dx fs) ∧ fs.map (·.1) = ns ∧ Reps K Z H l (fs.map (·.2))
def Reps (K : PySem.W.Frag) (Z H : Hp) : List D → List V → Prop
  | [], vs => vs = []
  | d :: ds, vs => ∃ v vr, vs = v :: vr ∧ Rep K Z H d v ∧ Reps K Z H ds vr
end

/-! ### owned addresses -/
theorem owns_append (l r : List D) : owns (l ++ r) = owns l ++ owns r := by
  induction l with
  | nil => rfl
  | cons d l ih => show own d ++ owns (l ++ r) = own d ++ owns l ++ owns r; rw [ih, List.append_assoc]
theorem owns_mem {a : Addr} {l : List D} : a ∈ owns l ↔ ∃ d ∈ l, a ∈ own d := by
  induction l with
  | nil => simp [owns]
  | cons d l ih => simp [owns, ih]
theorem owns_nil {l : List D} : owns l = [] ↔ ∀ d ∈ l, own d = [] := by
  induction l with
  | nil => simp [owns]
  | cons d l ih => simp [owns, ih]
theorem owns_map_nil {α : Type} {f : α → D} (h : ∀ x, own (f x) = []) (l : List α) : owns (l.map f) = [] := by
  rw [owns_nil]; intro d hd; obtain ⟨x, _, rfl⟩ := List.mem_map.mp hd; exact h x

mutual
theorem own_frz : ∀ d : D, own (frz d) = []
  | .tup l => owns_frzs l
  | .lsk l => owns_frzs l
  | .lst m l => by show [] ++ owns (frzs l) = []; rw [owns_frzs l]; rfl
  | .dct m ks l => by show [] ++ owns (frzs l) = []; rw [owns_frzs l]; rfl
  | .ins m C ns l => by show [] ++ owns (frzs l) = []; rw [owns_frzs l]; rfl
  | .hole => rfl
  | .non => rfl
  | .bl _ => rfl
  | .int _ => rfl
  | .str _ => rfl
  | .cv _ => rfl
theorem owns_frzs : ∀ l : List D, owns (frzs l) = []
  | [] => rfl
  | d :: r => by show own (frz d) ++ owns (frzs r) = []; rw [own_frz d, owns_frzs r]; rfl
end
theorem toList_nil {m : Option Addr} {l : List Addr} (h : m.toList ++ l = []) : m = none ∧ l = [] := by
  cases m with
  | none => exact ⟨rfl, h⟩
  | some a => exact absurd h (by simp)
mutual
theorem frz_of : ∀ d : D, own d = [] → frz d = d
  | .tup l, h => by show D.tup (frzs l) = D.tup l; rw [frzs_of l h]
  | .lsk l, h => by show D.lsk (frzs l) = D.lsk l; rw [frzs_of l h]
  | .lst m l, h => by
    obtain ⟨e, h⟩ := toList_nil h
    show D.lst none (frzs l) = D.lst m l
    rw [frzs_of l h, e]
  | .dct m ks l, h => by
    obtain ⟨e, h⟩ := toList_nil h
    show D.dct none ks (frzs l) = D.dct m ks l
    rw [frzs_of l h, e]
  | .ins m C ns l, h => by
    obtain ⟨e, h⟩ := toList_nil h
    show D.ins none C ns (frzs l) = D.ins m C ns l
    rw [frzs_of l h, e]
  | .hole, _ => rfl
  | .non, _ => rfl
  | .bl _, _ => rfl
  | .int _, _ => rfl
  | .str _, _ => rfl
  | .cv _, _ => rfl
theorem frzs_of : ∀ l : List D, owns l = [] → frzs l = l
  | [], _ => rfl
  | d :: r, h => by
    have h' := List.append_eq_nil_iff.mp h
    show frz d :: frzs r = d :: r
    rw [frz_of d h'.1, frzs_of r h'.2]
end

/-! ### the heap grows, what is owned stays -/
/-- Z is part of Z' -/
def Sub (Z Z' : Hp) : Prop := ∀ a o, Z a = some o → Z' a = some o
theorem Sub.refl (Z : Hp) : Sub Z Z := fun _ _ h => h
theorem Sub.trans {Z Z1 Z2 : Hp} (a : Sub Z Z1) (b : Sub Z1 Z2) : Sub Z Z2 := fun x o h => b x o (a x o h)
theorem sub_rd {Z Z' : Hp} {a : Addr} {u : HO} (e : Sub Z Z') (h : Rd Z a u) : Rd Z' a u := by
  rcases h with h | ⟨o, h⟩
  · exact .inl (e a _ h)
  · exact .inr ⟨o, e a _ h⟩
theorem sub_l {K : PySem.W.Frag} {H H' : Hp} {a : Addr} {xs : List V} (e : Sub H H') (h : SqL K H a xs) : SqL K H' a xs := by
  rcases h with h | h
  · exact .inl (sub_rd e h)
  · exact .inr h
theorem sub_t {K : PySem.W.Frag} {H H' : Hp} {a : Addr} {xs : List V} (e : Sub H H') (h : SqT K H a xs) : SqT K H' a xs := by
  rcases h with h | h
  · exact .inl (sub_rd e h)
  · exact .inr h

section
variable {K : PySem.W.Frag} {Z H Z' H' : Hp}
mutual
theorem Rep.mono (hz : Sub Z Z') : ∀ (d : D) (v : V), (∀ a ∈ own d, ∀ o, H a = some o → H' a = some o) → (∀ a ∈ own d, Z' a = none) → Rep K Z H d v → Rep K Z' H' d v
  | .hole, v, _, _, _ => trivial
  | .non, v, _, _, r => r
  | .bl _, v, _, _, r => r
  | .int _, v, _, _, r => r
  | .str _, v, _, _, r => r
  | .cv _, v, _, _, r => r
  | .tup l, v, h1, h2, r => by
    obtain ⟨n, a, vs, e, hs, hr⟩ := r
    exact ⟨n, a, vs, e, sub_t hz hs, Reps.mono hz l vs h1 h2 hr⟩
  | .lsk l, v, h1, h2, r => by
    obtain ⟨n, a, vs, e, hs, hr⟩ := r
    exact ⟨n, a, vs, e, sub_l hz hs, Reps.mono hz l vs h1 h2 hr⟩
  | .lst none l, v, h1, h2, r => by
    obtain ⟨n, a, vs, e, hs, hr⟩ := r
    exact ⟨n, a, vs, e, hz a _ hs, Reps.mono hz l vs h1 h2 hr⟩
  | .lst (some a) l, v, h1, h2, r => by
    obtain ⟨e, n, vs, hs, hr⟩ := r
    exact ⟨e, h2 a (List.mem_cons_self ..), vs, h1 a (List.mem_cons_self ..) _ hs, Reps.mono hz l vs (fun b hb => h1 b (List.mem_cons_of_mem _ hb)) (fun b hb => h2 b (List.mem_cons_of_mem _ hb)) hr⟩
  | .dct none ks l, v, h1, h2, r => by
    obtain ⟨n, a, kvs, e, hs, hk, hr⟩ := r
    exact ⟨n, a, kvs, e, hz a _ hs, hk, Reps.mono hz l _ h1 h2 hr⟩
  | .dct (some a) ks l, v, h1, h2, r => by
    obtain ⟨e, n, kvs, hs, hk, hr⟩ := r
    exact ⟨e, h2 a (List.mem_cons_self ..), kvs, h1 a (List.mem_cons_self ..) _ hs, hk, Reps.mono hz l _ (fun b hb => h1 b (List.mem_cons_of_mem _ hb)) (fun b hb => h2 b (List.mem_cons_of_mem _ hb)) hr⟩
  | .ins none C ns l, v, h1, h2, r => by
    obtain ⟨n, a, dx, fs, e, hs, hk, hr⟩ := r
    exact ⟨n, a, dx, fs, e, hz a _ hs, hk, Reps.mono hz l _ h1 h2 hr⟩
  | .ins (some a) C ns l, v, h1, h2, r => by
    obtain ⟨e, n, dx, fs, hs, hk, hr⟩ := r
    exact ⟨e, h2 a (List.mem_cons_self ..), dx, fs, h1 a (List.mem_cons_self ..) _ hs, hk, Reps.mono hz l _ (fun b hb => h1 b (List.mem_cons_of_mem _ hb)) (fun b hb => h2 b (List.mem_cons_of_mem _ hb)) hr⟩
theorem Reps.mono (hz : Sub Z Z') : ∀ (l : List D) (vs : List V), (∀ a ∈ owns l, ∀ o, H a = some o → H' a = some o) → (∀ a ∈ owns l, Z' a = none) → Reps K Z H l vs → Reps K Z' H' l vs
  | [], _, _, _, r => r
  | d :: l, vs, h1, h2, r => by
    obtain ⟨v, vr, e, r1, r2⟩ := r
    exact ⟨v, vr, e, Rep.mono hz d v (fun a ha => h1 a (List.mem_append_left _ ha)) (fun a ha => h2 a (List.mem_append_left _ ha)) r1, Reps.mono hz l vr (fun a ha => h1 a (List.mem_append_right _ ha)) (fun a ha => h2 a (List.mem_append_right _ ha)) r2⟩
end
/-- what nobody owns stays whatever the heap does -/
theorem Rep.sh (hz : Sub Z Z') {d : D} {v : V} (n : own d = []) (r : Rep K Z H d v) : Rep K Z' H' d v :=
  Rep.mono hz d v (fun a ha => by rw [n] at ha; cases ha) (fun a ha => by rw [n] at ha; cases ha) r
theorem Reps.sh (hz : Sub Z Z') {l : List D} {vs : List V} (n : owns l = []) (r : Reps K Z H l vs) : Reps K Z' H' l vs :=
  Reps.mono hz l vs (fun a ha => by rw [n] at ha; cases ha) (fun a ha => by rw [n] at ha; cases ha) r
theorem Reps.length : ∀ {l : List D} {vs : List V}, Reps K Z H l vs → vs.length = l.length
  | [], _, r => by rw [show _ = [] from r]; rfl
  | d :: l, vs, r => by
    obtain ⟨v, vr, e, _, r2⟩ := r
    rw [e]; show vr.length + 1 = l.length + 1; rw [Reps.length r2]
theorem Reps.get : ∀ {l : List D} {vs : List V} {i : Nat} {d : D}, Reps K Z H l vs → l[i]? = some d → ∃ v, vs[i]? = some v ∧ Rep K Z H d v
  | [], _, _, _, _, h => by simp at h
  | d :: l, vs, 0, x, r, h => by
    obtain ⟨v, vr, e, r1, _⟩ := r
    have : d = x := by simpa using h
    subst this
    exact ⟨v, by rw [e]; rfl, r1⟩
  | d :: l, vs, i + 1, x, r, h => by
    obtain ⟨v, vr, e, _, r2⟩ := r
    obtain ⟨u, h1, h2⟩ := Reps.get (i := i) r2 (by simpa using h)
    exact ⟨u, by rw [e]; simpa using h1, h2⟩
theorem Reps.set : ∀ {l : List D} {vs : List V} {i : Nat} {d : D} {v : V}, Reps K Z H l vs → Rep K Z H d v → Reps K Z H (l.set i d) (vs.set i v)
  | [], _, _, _, _, r, _ => by rw [show _ = [] from r]; exact rfl
  | x :: l, vs, 0, d, v, r, q => by
    obtain ⟨u, vr, e, _, r2⟩ := r
    rw [e]; exact ⟨v, vr, rfl, q, r2⟩
  | x :: l, vs, i + 1, d, v, r, q => by
    obtain ⟨u, vr, e, r1, r2⟩ := r
    rw [e]; exact ⟨u, _, rfl, r1, Reps.set r2 q⟩
theorem Reps.append : ∀ {l r : List D} {vs ws : List V}, Reps K Z H l vs → Reps K Z H r ws → Reps K Z H (l ++ r) (vs ++ ws)
  | [], _, _, _, a, b => by rw [show _ = [] from a]; exact b
  | x :: l, r, vs, ws, a, b => by
    obtain ⟨u, vr, e, r1, r2⟩ := a
    rw [e]; exact ⟨u, _, rfl, r1, Reps.append r2 b⟩
theorem Reps.nil : Reps K Z H [] [] := rfl
theorem Reps.one {d : D} {v : V} (r : Rep K Z H d v) : Reps K Z H [d] [v] := ⟨v, [], rfl, r, rfl⟩
theorem Reps.take : ∀ {l : List D} {vs : List V} (n : Nat), Reps K Z H l vs → Reps K Z H (l.take n) (vs.take n)
  | _, _, 0, _ => rfl
  | [], _, n + 1, r => by rw [show _ = [] from r]; exact rfl
  | x :: l, vs, n + 1, r => by
    obtain ⟨u, vr, e, r1, r2⟩ := r
    rw [e]; exact ⟨u, _, rfl, r1, Reps.take n r2⟩
theorem Reps.drop : ∀ {l : List D} {vs : List V} (n : Nat), Reps K Z H l vs → Reps K Z H (l.drop n) (vs.drop n)
  | _, _, 0, r => r
  | [], _, n + 1, r => by rw [show _ = [] from r]; exact rfl
  | x :: l, vs, n + 1, r => by
    obtain ⟨u, vr, e, _, r2⟩ := r
    rw [e]; exact Reps.drop n r2
end

/-! ### the state -/
abbrev Env := List (Option D)
def eo : Env → List Addr
  | [] => []
  | none :: r => eo r
  | some d :: r => own d ++ eo r
structure St (K : PySem.W.Frag) (n : Nat) (Z H : Hp) (σ : L2.St) (ρ : Env) : Prop where
  sub : Sub Z H
  len : σ.length = ρ.length
  ln : ρ.length = n
  rep : ∀ (i : Nat) (d : D), ρ[i]? = some (some d) → ∃ v, σ[i]? = some (some v) ∧ Rep K Z H d v
  nd : (eo ρ).Nodup
theorem eo_mem {a : Addr} : ∀ {ρ : Env}, a ∈ eo ρ ↔ ∃ (i : Nat) (d : D), ρ[i]? = some (some d) ∧ a ∈ own d
  | [] => by simp [eo]
  | none :: r => by
    show a ∈ eo r ↔ _
    rw [eo_mem (ρ := r)]
    constructor
    · rintro ⟨i, d, h1, h2⟩; exact ⟨i + 1, d, by simpa using h1, h2⟩
    · rintro ⟨i, d, h1, h2⟩
      cases i with
      | zero => simp at h1
      | succ i => exact ⟨i, d, by simpa using h1, h2⟩
  | some x :: r => by
    show a ∈ own x ++ eo r ↔ _
    rw [List.mem_append, eo_mem (ρ := r)]
    constructor
    · rintro (h | ⟨i, d, h1, h2⟩)
      · exact ⟨0, x, rfl, h⟩
      · exact ⟨i + 1, d, by simpa using h1, h2⟩
    · rintro ⟨i, d, h1, h2⟩
      cases i with
      | zero =>
        have : x = d := by simpa using h1
        subst this; exact .inl h2
      | succ i => exact .inr ⟨i, d, by simpa using h1, h2⟩
/-- a slot taken out -/
theorem eo_out : ∀ {ρ : Env} {i : Nat} {d : D}, ρ[i]? = some (some d) → (eo ρ).Perm (own d ++ eo (ρ.set i none))
  | [], i, d, h => by simp at h
  | o :: r, 0, d, h => by
    have : o = some d := by simpa using h
    subst this
    exact .refl _
  | none :: r, i + 1, d, h => eo_out (ρ := r) (i := i) (by simpa using h)
  | some x :: r, i + 1, d, h => by
    have ih := eo_out (ρ := r) (i := i) (d := d) (by simpa using h)
    show (own x ++ eo r).Perm (own d ++ (own x ++ eo (r.set i none)))
    refine (ih.append_left (own x)).trans ?_
    rw [← List.append_assoc, ← List.append_assoc]
    exact List.perm_append_comm.append_right _
/-- a slot put in -/
theorem eo_in : ∀ {ρ : Env} {i : Nat} {d : D}, i < ρ.length → (eo (ρ.set i (some d))).Perm (own d ++ eo (ρ.set i none))
  | [], i, d, h => by simp at h
  | o :: r, 0, d, h => .refl _
  | none :: r, i + 1, d, h => eo_in (ρ := r) (i := i) (by simpa using h)
  | some x :: r, i + 1, d, h => by
    have ih := eo_in (ρ := r) (i := i) (d := d) (by simpa using h)
    show (own x ++ eo (r.set i (some d))).Perm (own d ++ (own x ++ eo (r.set i none)))
    refine (ih.append_left (own x)).trans ?_
    rw [← List.append_assoc, ← List.append_assoc]
    exact List.perm_append_comm.append_right _
theorem eo_none_sub : ∀ {ρ : Env} {i : Nat}, (eo (ρ.set i none)).Sublist (eo ρ)
  | [], i => by simp
  | none :: r, 0 => List.Sublist.refl _
  | some x :: r, 0 => List.sublist_append_right _ _
  | none :: r, i + 1 => eo_none_sub (ρ := r) (i := i)
  | some x :: r, i + 1 => (eo_none_sub (ρ := r) (i := i)).append_left _
theorem nodup_app_comm {l r : List Addr} : (l ++ r).Nodup ↔ (r ++ l).Nodup := List.perm_append_comm.nodup_iff

/-- what one step does: from Z, H with F owned to Z', H' with F' owned -/
structure Step (Z H : Hp) (F : List Addr) (Z' H' : Hp) (F' : List Addr) : Prop where
  zz : Sub Z Z'
  keep : ∀ a o, H a = some o → a ∉ F → H' a = some o
  fre : ∀ a ∈ F', a ∈ F ∨ H a = none
  zfr : ∀ a, Z a = none → Z' a ≠ none → a ∈ F ∨ H a = none
section
variable {K : PySem.W.Frag} {Z H Z' H' Z'' H'' : Hp} {F F' F'' : List Addr} {σ : L2.St} {ρ ρ' : Env} {d : D} {v : V}
theorem Step.refl (Z H : Hp) (F : List Addr) : Step Z H F Z H F := ⟨Sub.refl Z, fun _ _ h _ => h, fun _ h => .inl h, fun _ h h' => absurd h h'⟩
theorem Step.trans (s1 : Step Z H F Z' H' F') (s2 : Step Z' H' F' Z'' H'' F'') : Step Z H F Z'' H'' F'' := by
  refine ⟨s1.zz.trans s2.zz, fun a o h n => s2.keep a o (s1.keep a o h n) fun hf => ?_, fun a ha => ?_, fun a hz hz' => ?_⟩
  · rcases s1.fre a hf with q | q
    · exact n q
    · rw [h] at q; cases q
  · rcases s2.fre a ha with q | q
    · exact s1.fre a q
    · by_cases hF : a ∈ F
      · exact .inl hF
      · cases e : H a with
        | none => exact .inr rfl
        | some o => rw [s1.keep a o e hF] at q; cases q
  · by_cases hF : a ∈ F
    · exact .inl hF
    · cases e : H a with
      | none => exact .inr rfl
      | some o =>
        have e' := s1.keep a o e hF
        cases e1 : Z' a with
        | none =>
          rcases s2.zfr a e1 hz' with q | q
          · exact s1.fre a q |>.imp id fun z => by rw [e] at z; cases z
          · rw [e'] at q; cases q
        | some u =>
          rcases s1.zfr a hz (by rw [e1]; exact fun z => nomatch z) with q | q
          · exact absurd q hF
          · rw [e] at q; cases q
theorem Step.sub (s : Step Z H F Z' H' F') (h : ∀ a ∈ F'', a ∈ F') : Step Z H F Z' H' F'' := ⟨s.zz, s.keep, fun a ha => s.fre a (h a ha), s.zfr⟩
theorem Step.sup (s : Step Z H F Z' H' F') (h : ∀ a ∈ F, a ∈ F'') : Step Z H F'' Z' H' F' := ⟨s.zz, fun a o e n => s.keep a o e fun z => n (h a z), fun a ha => (s.fre a ha).imp (h a) id, fun a z z' => (s.zfr a z z').imp (h a) id⟩
/-- owned data aside stay over a step -/
theorem Rep.aside (s : Step Z H F Z' H' F') (r : Rep K Z H d v) (hd : ∀ a ∈ own d, a ∉ F) (hz : ∀ a ∈ own d, Z a = none) (hh : ∀ a ∈ own d, H a ≠ none) : Rep K Z' H' d v := by
  refine Rep.mono s.zz d v (fun a ha o e => s.keep a o e (hd a ha)) (fun a ha => ?_) r
  cases e : Z' a with
  | none => rfl
  | some u =>
    rcases s.zfr a (hz a ha) (by rw [e]; exact fun z => nomatch z) with q | q
    · exact absurd q (hd a ha)
    · exact absurd q (hh a ha)
end
section
variable {K : PySem.W.Frag} {Z H Z' H' : Hp}
mutual
theorem Rep.ownd : ∀ (d : D) (v : V), Rep K Z H d v → ∀ a ∈ own d, Z a = none ∧ H a ≠ none
  | .hole, v, _, a, h => by cases h
  | .non, v, _, a, h => by cases h
  | .bl _, v, _, a, h => by cases h
  | .int _, v, _, a, h => by cases h
  | .str _, v, _, a, h => by cases h
  | .cv _, v, _, a, h => by cases h
  | .tup l, v, r, a, h => by
    obtain ⟨n, _⟩ := r
    have h' : a ∈ owns l := h
    rw [n] at h'; cases h'
  | .lsk l, v, r, a, h => by
    obtain ⟨n, _⟩ := r
    have h' : a ∈ owns l := h
    rw [n] at h'; cases h'
  | .lst none l, v, r, a, h => by
    obtain ⟨n, _⟩ := r
    have h' : a ∈ owns l := h
    rw [n] at h'; cases h'
  | .lst (some b) l, v, r, a, h => by
    obtain ⟨e, n, vs, hs, hr⟩ := r
    rcases List.mem_cons.mp h with q | q
    · subst q; exact ⟨n, by rw [hs]; exact fun z => nomatch z⟩
    · exact Reps.ownd l vs hr a q
  | .dct none ks l, v, r, a, h => by
    obtain ⟨n, _⟩ := r
    have h' : a ∈ owns l := h
    rw [n] at h'; cases h'
  | .dct (some b) ks l, v, r, a, h => by
    obtain ⟨e, n, kvs, hs, hk, hr⟩ := r
    rcases List.mem_cons.mp h with q | q
    · subst q; exact ⟨n, by rw [hs]; exact fun z => nomatch z⟩
    · exact Reps.ownd l _ hr a q
  | .ins none C ns l, v, r, a, h => by
    obtain ⟨n, _⟩ := r
    have h' : a ∈ owns l := h
    rw [n] at h'; cases h'
  | .ins (some b) C ns l, v, r, a, h => by
    obtain ⟨e, n, dx, fs, hs, hk, hr⟩ := r
    rcases List.mem_cons.mp h with q | q
    · subst q; exact ⟨n, by rw [hs]; exact fun z => nomatch z⟩
    · exact Reps.ownd l _ hr a q
theorem Reps.ownd : ∀ (l : List D) (vs : List V), Reps K Z H l vs → ∀ a ∈ owns l, Z a = none ∧ H a ≠ none
  | [], _, _, a, h => by cases h
  | d :: l, vs, r, a, h => by
    obtain ⟨v, vr, e, r1, r2⟩ := r
    rcases List.mem_append.mp h with q | q
    · exact Rep.ownd d v r1 a q
    · exact Reps.ownd l vr r2 a q
end
/-- the owned made known for good -/
def fz (Z H : Hp) (F : List Addr) : Hp := fun a => if a ∈ F then H a else Z a
theorem fz_in {F : List Addr} {a : Addr} (h : a ∈ F) : fz Z H F a = H a := by unfold fz; rw [if_pos h]
theorem fz_out {F : List Addr} {a : Addr} (h : a ∉ F) : fz Z H F a = Z a := by unfold fz; rw [if_neg h]
theorem fz_sub {F : List Addr} (h : ∀ a ∈ F, Z a = none) : Sub Z (fz Z H F) := fun a o e => by
  rw [fz_out (fun z => by rw [h a z] at e; cases e)]; exact e
theorem fz_le {F : List Addr} (hs : Sub Z H) : Sub (fz Z H F) H := fun a o e => by
  by_cases h : a ∈ F
  · rw [fz_in h] at e; exact e
  · rw [fz_out h] at e; exact hs a o e
mutual
theorem Rep.frz {F : List Addr} (hz : ∀ a ∈ F, Z a = none) : ∀ (d : D) (v : V), (∀ a ∈ own d, a ∈ F) → Rep K Z H d v → Rep K (fz Z H F) H (DL.frz d) v
  | .hole, v, _, _ => trivial
  | .non, v, _, r => r
  | .bl _, v, _, r => r
  | .int _, v, _, r => r
  | .str _, v, _, r => r
  | .cv _, v, _, r => r
  | .tup l, v, h1, r => by
    obtain ⟨n, a, vs, e, hs, hr⟩ := r
    exact ⟨owns_frzs l, a, vs, e, sub_t (fz_sub hz) hs, Reps.frz hz l vs h1 hr⟩
  | .lsk l, v, h1, r => by
    obtain ⟨n, a, vs, e, hs, hr⟩ := r
    exact ⟨owns_frzs l, a, vs, e, sub_l (fz_sub hz) hs, Reps.frz hz l vs h1 hr⟩
  | .lst none l, v, h1, r => by
    obtain ⟨n, a, vs, e, hs, hr⟩ := r
    exact ⟨owns_frzs l, a, vs, e, fz_sub hz a _ hs, Reps.frz hz l vs h1 hr⟩
  | .lst (some a) l, v, h1, r => by
    obtain ⟨e, n, vs, hs, hr⟩ := r
    exact ⟨owns_frzs l, a, vs, e, by rw [fz_in (h1 a (List.mem_cons_self ..))]; exact hs, Reps.frz hz l vs (fun b hb => h1 b (List.mem_cons_of_mem _ hb)) hr⟩
  | .dct none ks l, v, h1, r => by
    obtain ⟨n, a, kvs, e, hs, hk, hr⟩ := r
    exact ⟨owns_frzs l, a, kvs, e, fz_sub hz a _ hs, hk, Reps.frz hz l _ h1 hr⟩
  | .dct (some a) ks l, v, h1, r => by
    obtain ⟨e, n, kvs, hs, hk, hr⟩ := r
    exact ⟨owns_frzs l, a, kvs, e, by rw [fz_in (h1 a (List.mem_cons_self ..))]; exact hs, hk, Reps.frz hz l _ (fun b hb => h1 b (List.mem_cons_of_mem _ hb)) hr⟩
  | .ins none C ns l, v, h1, r => by
    obtain ⟨n, a, dx, fs, e, hs, hk, hr⟩ := r
    exact ⟨owns_frzs l, a, dx, fs, e, fz_sub hz a _ hs, hk, Reps.frz hz l _ h1 hr⟩
  | .ins (some a) C ns l, v, h1, r => by
    obtain ⟨e, n, dx, fs, hs, hk, hr⟩ := r
    exact ⟨owns_frzs l, a, dx, fs, e, by rw [fz_in (h1 a (List.mem_cons_self ..))]; exact hs, hk, Reps.frz hz l _ (fun b hb => h1 b (List.mem_cons_of_mem _ hb)) hr⟩
theorem Reps.frz {F : List Addr} (hz : ∀ a ∈ F, Z a = none) : ∀ (l : List D) (vs : List V), (∀ a ∈ owns l, a ∈ F) → Reps K Z H l vs → Reps K (fz Z H F) H (DL.frzs l) vs
  | [], _, _, r => r
  | d :: l, vs, h1, r => by
    obtain ⟨v, vr, e, r1, r2⟩ := r
    exact ⟨v, vr, e, Rep.frz hz d v (fun a ha => h1 a (List.mem_append_left _ ha)) r1, Reps.frz hz l vr (fun a ha => h1 a (List.mem_append_right _ ha)) r2⟩
end
end
end DL
set_option Elab.async false
set_option linter.all false
set_option maxRecDepth 100000
namespace DL
open PySem PySem.Spec PyProof.Rows L2

/-! ### the state changes at one slot -/
section
variable {K : PySem.W.Frag} {n : Nat} {Z H Z' H' : Hp} {σ : L2.St} {ρ : Env} {d : D} {v : V} {i : Nat}
theorem getq_set_self {α : Type} {l : List α} {i : Nat} {x : α} (h : i < l.length) : (l.set i x)[i]? = some x := by simp [h]
theorem getq_set_ne {α : Type} {l : List α} {i j : Nat} {x : α} (h : i ≠ j) : (l.set i x)[j]? = l[j]? := by simp [List.getElem?_set, h]
theorem lt_of_get {α : Type} {l : List α} {i : Nat} {x : α} (h : l[i]? = some x) : i < l.length := (List.getElem?_eq_some_iff.mp h).1
/-- a value is stored in a slot -/
theorem St.store (s : St K n Z H σ ρ) (r : Rep K Z H d v) (hn : (own d ++ eo ρ).Nodup) (hi : i < ρ.length) : St K n Z H (σ.set i (some v)) (ρ.set i (some d)) := by
  refine ⟨s.sub, by simp [s.len], by simp [s.ln], fun j e h => ?_, ?_⟩
  · by_cases hj : i = j
    · subst hj
      rw [getq_set_self hi] at h
      cases h
      exact ⟨v, getq_set_self (by rw [s.len]; exact hi), r⟩
    · rw [getq_set_ne hj] at h
      obtain ⟨u, h1, h2⟩ := s.rep j e h
      exact ⟨u, by rw [getq_set_ne hj]; exact h1, h2⟩
  · rw [(eo_in hi).nodup_iff]
    exact hn.sublist (List.Sublist.append_left eo_none_sub _)
theorem eo_store_sub {a : Addr} (hi : i < ρ.length) (h : a ∈ eo (ρ.set i (some d))) : a ∈ own d ++ eo ρ := by
  have := (eo_in (d := d) hi).mem_iff.mp h
  rcases List.mem_append.mp this with q | q
  · exact List.mem_append_left _ q
  · exact List.mem_append_right _ (eo_none_sub.subset q)
theorem St.mono (s : St K n Z H σ ρ) (hs : Sub Z' H') (hz : Sub Z Z') (h1 : ∀ a ∈ eo ρ, ∀ o, H a = some o → H' a = some o) (h2 : ∀ a ∈ eo ρ, Z' a = none) : St K n Z' H' σ ρ := by
  refine ⟨hs, s.len, s.ln, fun j e h => ?_, s.nd⟩
  obtain ⟨u, q, r⟩ := s.rep j e h
  exact ⟨u, q, Rep.mono hz e u (fun a ha => h1 a (eo_mem.mpr ⟨j, e, h, ha⟩)) (fun a ha => h2 a (eo_mem.mpr ⟨j, e, h, ha⟩)) r⟩
theorem St.ownd (s : St K n Z H σ ρ) : ∀ a ∈ eo ρ, Z a = none ∧ H a ≠ none := fun a ha => by
  obtain ⟨i, d, h, hd⟩ := eo_mem.mp ha
  obtain ⟨u, q, r⟩ := s.rep i d h
  exact Rep.ownd d u r a hd
/-- a new object that is not owned by a slot -/
theorem St.grow {p : Addr} {o : HO} (s : St K n Z H σ ρ) (hp : H p = none) : St K n Z (upd H p o) σ ρ := by
  have ne : ∀ a, H a ≠ none → a ≠ p := fun a h e => h (by rw [e]; exact hp)
  refine s.mono (fun a u e => ?_) (Sub.refl Z) (fun a ha o e => ?_) fun a ha => (s.ownd a ha).1
  · have h := s.sub a u e
    rw [upd_ne (ne a (by rw [h]; exact fun z => nomatch z))]; exact h
  · rw [upd_ne (ne a (by rw [e]; exact fun z => nomatch z))]; exact e
theorem Rep.grow {p : Addr} {o : HO} (r : Rep K Z H d v) (hp : H p = none) : Rep K Z (upd H p o) d v :=
  Rep.mono (Sub.refl Z) d v (fun a ha o e => by rw [upd_ne (ne_of_none e hp)]; exact e) (fun a ha => (Rep.ownd d v r a ha).1) r
theorem Reps.grow {p : Addr} {o : HO} {l : List D} {vs : List V} (r : Reps K Z H l vs) (hp : H p = none) : Reps K Z (upd H p o) l vs :=
  Reps.mono (Sub.refl Z) l vs (fun a ha o e => by rw [upd_ne (ne_of_none e hp)]; exact e) (fun a ha => (Reps.ownd l vs r a ha).1) r
/-- a new object, known for good -/
theorem St.known {p : Addr} {o : HO} (s : St K n Z H σ ρ) (hp : H p = none) : St K n (upd Z p o) (upd H p o) σ ρ := by
  have ne : ∀ a, H a ≠ none → a ≠ p := fun a h e => h (by rw [e]; exact hp)
  have zp : Z p = none := by
    cases e : Z p with
    | none => rfl
    | some u => rw [s.sub p u e] at hp; cases hp
  refine s.mono (fun a u e => ?_) (fun a u e => ?_) (fun a ha u e => ?_) fun a ha => ?_
  · by_cases h : a = p
    · subst h; rw [upd_same] at e ⊢; exact e
    · rw [upd_ne h] at e ⊢; exact s.sub a u e
  · rw [upd_ne (ne_of_none e zp)]; exact e
  · rw [upd_ne (ne_of_none e hp)]; exact e
  · rw [upd_ne (ne a (s.ownd a ha).2)]; exact (s.ownd a ha).1
theorem upd_sub {p : Addr} {o : HO} (hp : H p = none) : Sub H (upd H p o) := fun a u e => by rw [upd_ne (ne_of_none e hp)]; exact e
theorem step_new {p : Addr} {o : HO} {F : List Addr} (hp : H p = none) : Step Z H F Z (upd H p o) (p :: F) :=
  ⟨Sub.refl Z, fun a u e _ => by rw [upd_ne (ne_of_none e hp)]; exact e, fun a ha => (List.mem_cons.mp ha).elim (fun e => .inr (by rw [e]; exact hp)) .inl, fun a h h' => absurd h h'⟩
theorem step_known {p : Addr} {o : HO} {F : List Addr} (hs : Sub Z H) (hp : H p = none) : Step Z H F (upd Z p o) (upd H p o) F := by
  have zp : Z p = none := by
    cases e : Z p with
    | none => rfl
    | some u => rw [hs p u e] at hp; cases hp
  refine ⟨upd_sub zp, fun a u e _ => by rw [upd_ne (ne_of_none e hp)]; exact e, fun a ha => .inl ha, fun a h h' => .inr ?_⟩
  by_cases e : a = p
  · rw [e]; exact hp
  · rw [upd_ne e] at h'; exact absurd h h'
/-- what is owned is made known for good -/
theorem St.freeze {F : List Addr} (s : St K n Z H σ ρ) (hF : ∀ a ∈ F, Z a = none) (hn : ∀ a ∈ eo ρ, a ∉ F) : St K n (fz Z H F) H σ ρ :=
  s.mono (fz_le s.sub) (fz_sub hF) (fun a _ o e => e) fun a ha => by rw [fz_out (hn a ha)]; exact (s.ownd a ha).1
theorem step_fz {F G : List Addr} (hF : ∀ a ∈ F, Z a = none) (hG : ∀ a ∈ F, a ∈ G) : Step Z H G (fz Z H F) H G :=
  ⟨fz_sub hF, fun _ _ e _ => e, fun _ h => .inl h, fun a h h' => by
    by_cases hf : a ∈ F
    · exact .inl (hG a hf)
    · rw [fz_out hf] at h'; exact absurd h h'⟩
end

/-! ### paths -/
inductive Ix where
  | at (k : Nat) | key (k : Key) | fld (f : Str)
def posOf {α : Type} [DecidableEq α] : List α → α → Option Nat
  | [], _ => none
  | x :: r, y => if x = y then some 0 else (posOf r y).map (· + 1)
def kids : D → List D
  | .lst _ l => l
  | .dct _ _ l => l
  | .ins _ _ _ l => l
  | _ => []
def wkids : D → List D → D
  | .lst m _, l => .lst m l
  | .dct m ks _, l => .dct m ks l
  | .ins m C ns _, l => .ins m C ns l
  | d, _ => d
def addr : D → Option Addr
  | .lst m _ => m
  | .dct m _ _ => m
  | .ins m _ _ _ => m
  | _ => none
/-- the place of a child of an owned node -/
def cpos : D → Ix → Option Nat
  | .lst (some _) l, .at k => if k < l.length then some k else none
  | .dct (some _) ks _, .key k => posOf ks k
  | .ins (some _) _ ns _, .fld f => posOf ns f
  | _, _ => none
def lent (a : Addr) : D := .cv (.ref a)
def getD : D → List Ix → Option D
  | d, [] => some d
  | d, x :: q => match cpos d x with
    | some k => match (kids d)[k]? with
      | some e => getD e q
      | none => none
    | none => none
def setD : D → List Ix → D → D
  | _, [], e => e
  | d, x :: q, e => match cpos d x with
    | some k => match (kids d)[k]? with
      | some c => wkids d ((kids d).set k (setD c q e))
      | none => d
    | none => d
abbrev Path := Nat × List Ix
def getP (ρ : Env) (p : Path) : Option D := match ρ[p.1]? with
  | some (some d) => getD d p.2
  | _ => none
def setP (ρ : Env) (p : Path) (e : D) : Env := match ρ[p.1]? with
  | some (some d) => ρ.set p.1 (some (setD d p.2 e))
  | _ => ρ
theorem cpos_addr {d : D} {x : Ix} {k : Nat} (h : cpos d x = some k) : ∃ a, addr d = some a := by
  cases d with
  | lst m l => cases m with
    | some a => exact ⟨a, rfl⟩
    | none => cases x <;> cases h
  | dct m ks l => cases m with
    | some a => exact ⟨a, rfl⟩
    | none => cases x <;> cases h
  | ins m C ns l => cases m with
    | some a => exact ⟨a, rfl⟩
    | none => cases x <;> cases h
  | _ => cases x <;> cases h
theorem own_addr {d : D} {a : Addr} (h : addr d = some a) : own d = a :: owns (kids d) := by
  cases d with
  | lst m l => rw [show m = some a from h]; rfl
  | dct m ks l => rw [show m = some a from h]; rfl
  | ins m C ns l => rw [show m = some a from h]; rfl
  | _ => cases h
theorem addr_wkids {d : D} {a : Addr} {l : List D} (h : addr d = some a) : addr (wkids d l) = some a ∧ kids (wkids d l) = l := by
  cases d with
  | lst m l => exact ⟨h, rfl⟩
  | dct m ks l => exact ⟨h, rfl⟩
  | ins m C ns l => exact ⟨h, rfl⟩
  | _ => cases h
theorem wkids_wkids {d : D} {l r : List D} : wkids (wkids d l) r = wkids d r := by cases d <;> rfl
theorem cpos_wkids {d : D} {l : List D} (hl : l.length = (kids d).length) (x : Ix) : cpos (wkids d l) x = cpos d x := by
  cases d with
  | lst m l' =>
    cases m with
    | none => cases x <;> rfl
    | some a =>
      cases x with
      | «at» k =>
        show (if k < l.length then some k else none) = (if k < l'.length then some k else none)
        rw [show l.length = l'.length from hl]
      | key k => rfl
      | fld f => rfl
  | dct m ks l' => cases m <;> cases x <;> rfl
  | ins m C ns l' => cases m <;> cases x <;> rfl
  | _ => rfl
theorem setD_cons {d e c' : D} {i : Ix} {q : List Ix} {k : Nat} (hk : cpos d i = some k) (he : (kids d)[k]? = some e) : setD d (i :: q) c' = wkids d ((kids d).set k (setD e q c')) := by
  simp only [setD, hk, he]
theorem getD_cons {d e : D} {i : Ix} {q : List Ix} {k : Nat} (hk : cpos d i = some k) (he : (kids d)[k]? = some e) : getD d (i :: q) = getD e q := by
  simp only [getD, hk, he]
section
variable {K : PySem.W.Frag} {Z H : Hp}
/-- an owned node by its kids -/
theorem Rep.node {d : D} {a : Addr} {v : V} (h : addr d = some a) (r : Rep K Z H d v) : v = .ref a ∧ Z a = none ∧ H a ≠ none ∧ ∃ vs, Reps K Z H (kids d) vs ∧ ∀ l, Reps K Z H l vs → Rep K Z H (wkids d l) v := by
  cases d with
  | lst m l =>
    rw [show m = some a from h] at r ⊢
    obtain ⟨e, n, vs, hs, hr⟩ := r
    exact ⟨e, n, (by rw [hs]; intro z; cases z), vs, hr, fun l' hl => ⟨e, n, vs, hs, hl⟩⟩
  | dct m ks l =>
    rw [show m = some a from h] at r ⊢
    obtain ⟨e, n, kvs, hs, hk, hr⟩ := r
    exact ⟨e, n, (by rw [hs]; intro z; cases z), _, hr, fun l' hl => ⟨e, n, kvs, hs, hk, hl⟩⟩
  | ins m C ns l =>
    rw [show m = some a from h] at r ⊢
    obtain ⟨e, n, dx, fs, hs, hk, hr⟩ := r
    exact ⟨e, n, (by rw [hs]; intro z; cases z), _, hr, fun l' hl => ⟨e, n, dx, fs, hs, hk, hl⟩⟩
  | _ => cases h
theorem Rep.at {c : D} : ∀ (q : List Ix) {d : D} {v : V}, Rep K Z H d v → getD d q = some c → ∃ u, Rep K Z H c u ∧ ∀ c', Rep K Z H c' u → Rep K Z H (setD d q c') v
  | [], d, v, r, h => by
    have : d = c := by simpa [getD] using h
    subst this
    exact ⟨v, r, fun c' r' => r'⟩
  | x :: q, d, v, r, h => by
    unfold getD at h
    cases hk : cpos d x with
    | none => rw [hk] at h; cases h
    | some k =>
      rw [hk] at h
      cases he : (kids d)[k]? with
      | none => simp only [he] at h; cases h
      | some e =>
        simp only [he] at h
        obtain ⟨a, ha⟩ := cpos_addr hk
        obtain ⟨_, _, _, vs, hr, back⟩ := Rep.node ha r
        obtain ⟨w, hw, re⟩ := hr.get he
        obtain ⟨u, hu, hb⟩ := Rep.at q re h
        refine ⟨u, hu, fun c' r' => ?_⟩
        unfold setD
        simp only [hk, he]
        have e2 : vs.set k w = vs := by
          apply List.ext_getElem?
          intro j
          by_cases hj : k = j
          · subst hj; rw [getq_set_self (lt_of_get hw), hw]
          · rw [getq_set_ne hj]
        have := hr.set (i := k) (hb c' r')
        rw [e2] at this
        exact back _ this
end
theorem owns_set : ∀ {l : List D} {k : Nat} {c x : D}, l[k]? = some c → own x = [] → (owns l).Perm (own c ++ owns (l.set k x)) ∧ ∀ c', (owns (l.set k c')).Perm (own c' ++ owns (l.set k x))
  | [], k, c, x, h, _ => by simp at h
  | y :: r, 0, c, x, h, hx => by
    have : y = c := by simpa using h
    subst this
    refine ⟨?_, fun c' => ?_⟩
    · show (own y ++ owns r).Perm (own y ++ (own x ++ owns r))
      rw [hx]; exact List.Perm.refl _
    · show (own c' ++ owns r).Perm (own c' ++ (own x ++ owns r))
      rw [hx]; exact List.Perm.refl _
  | y :: r, k + 1, c, x, h, hx => by
    have ih := owns_set (l := r) (k := k) (c := c) (x := x) (by simpa using h) hx
    have sw : ∀ A : List Addr, (own y ++ (A ++ owns (r.set k x))).Perm (A ++ (own y ++ owns (r.set k x))) := fun A => by
      rw [← List.append_assoc, ← List.append_assoc]; exact List.perm_append_comm.append_right _
    refine ⟨(ih.1.append_left (own y)).trans (sw _), fun c' => ((ih.2 c').append_left (own y)).trans (sw _)⟩
theorem own_set {c : D} (x : D) (hx : own x = []) : ∀ (q : List Ix) {d : D}, getD d q = some c → (own d).Perm (own c ++ own (setD d q x)) ∧ ∀ c', (own (setD d q c')).Perm (own c' ++ own (setD d q x))
  | [], d, h => by
    have : d = c := by simpa [getD] using h
    subst this
    refine ⟨?_, fun c' => ?_⟩
    · show (own d).Perm (own d ++ own x); rw [hx, List.append_nil]
    · show (own c').Perm (own c' ++ own x); rw [hx, List.append_nil]
  | i :: q, d, h => by
    unfold getD at h
    cases hk : cpos d i with
    | none => rw [hk] at h; cases h
    | some k =>
      rw [hk] at h
      cases he : (kids d)[k]? with
      | none => simp only [he] at h; cases h
      | some e =>
        simp only [he] at h
        obtain ⟨a, ha⟩ := cpos_addr hk
        have ih := own_set x hx q h
        have es : ∀ c', setD d (i :: q) c' = wkids d ((kids d).set k (setD e q c')) := fun c' => setD_cons hk he
        have eo' : ∀ c', own (setD d (i :: q) c') = a :: owns ((kids d).set k (setD e q c')) := fun c' => by
          rw [es, own_addr (addr_wkids ha).1, (addr_wkids ha).2]
        have ow := owns_set (l := kids d) (k := k) (c := e) (x := .hole) he rfl
        have up : ∀ (A B C : List Addr), B.Perm (A ++ C) → (a :: B).Perm (A ++ (a :: C)) := fun A B C hp => by
          refine (hp.cons a).trans ?_
          exact List.perm_middle.symm
        have two : ∀ c', (owns ((kids d).set k (setD e q c'))).Perm (own c' ++ owns ((kids d).set k (setD e q x))) := fun c' => by
          refine (ow.2 _).trans ?_
          refine ((ih.2 c').append_right _).trans ?_
          rw [List.append_assoc]
          exact (ow.2 _).symm.append_left _
        refine ⟨?_, fun c' => ?_⟩
        · rw [eo', own_addr ha]
          refine up _ _ _ ?_
          refine ow.1.trans ?_
          refine (ih.1.append_right _).trans ?_
          rw [List.append_assoc]
          exact (ow.2 _).symm.append_left _
        · rw [eo', eo']
          exact up _ _ _ (two c')
theorem getD_setD {c : D} (x : D) : ∀ (q : List Ix) {d : D}, getD d q = some c → getD (setD d q x) q = some x ∧ ∀ y, setD (setD d q x) q y = setD d q y
  | [], d, h => ⟨rfl, fun y => rfl⟩
  | i :: q, d, h => by
    unfold getD at h
    cases hk : cpos d i with
    | none => rw [hk] at h; cases h
    | some k =>
      rw [hk] at h
      cases he : (kids d)[k]? with
      | none => simp only [he] at h; cases h
      | some e =>
        simp only [he] at h
        obtain ⟨a, ha⟩ := cpos_addr hk
        have ih := getD_setD x q h
        have es : ∀ c', setD d (i :: q) c' = wkids d ((kids d).set k (setD e q c')) := fun c' => setD_cons hk he
        have hk2 : ∀ c', cpos (wkids d ((kids d).set k c')) i = some k := fun c' => by rw [cpos_wkids (by simp), hk]
        have hg : ∀ c', (kids (wkids d ((kids d).set k c')))[k]? = some c' := fun c' => by rw [(addr_wkids ha).2, getq_set_self (lt_of_get he)]
        refine ⟨?_, fun y => ?_⟩
        · rw [es]
          rw [getD_cons (hk2 _) (hg _)]
          exact ih.1
        · rw [es x, es y]
          rw [setD_cons (hk2 _) (hg _)]
          rw [ih.2, wkids_wkids, (addr_wkids ha).2, List.set_set]
section
variable {K : PySem.W.Frag} {n : Nat} {Z H Z' H' : Hp} {σ : L2.St} {ρ : Env} {d c : D} {v : V} {p : Path} {a : Addr}
theorem getP_some (h : getP ρ p = some c) : ∃ d, ρ[p.1]? = some (some d) ∧ getD d p.2 = some c := by
  unfold getP at h
  cases e : ρ[p.1]? with
  | none => rw [e] at h; cases h
  | some o => cases o with
    | none => rw [e] at h; cases h
    | some d => rw [e] at h; exact ⟨d, rfl, h⟩
theorem setP_of {x : D} (h : ρ[p.1]? = some (some d)) : setP ρ p x = ρ.set p.1 (some (setD d p.2 x)) := by unfold setP; rw [h]
theorem setP_len {x : D} : (setP ρ p x).length = ρ.length := by
  unfold setP
  cases e : ρ[p.1]? with
  | none => rfl
  | some o => cases o with
    | none => rfl
    | some d => simp
theorem getP_setP {x : D} (h : getP ρ p = some c) : getP (setP ρ p x) p = some x ∧ ∀ y, setP (setP ρ p x) p y = setP ρ p y := by
  obtain ⟨d, h1, h2⟩ := getP_some h
  have e := setP_of (x := x) h1
  have h3 : (setP ρ p x)[p.1]? = some (some (setD d p.2 x)) := by rw [e, getq_set_self (lt_of_get h1)]
  obtain ⟨g1, g2⟩ := getD_setD x p.2 h2
  refine ⟨?_, fun y => ?_⟩
  · unfold getP; rw [h3]; exact g1
  · rw [setP_of h3, e, List.set_set, g2, setP_of h1]
/-- an owned node is taken out of the state -/
theorem eo_setP {x : D} (hx : own x = []) (h : getP ρ p = some c) : (eo ρ).Perm (own c ++ eo (setP ρ p x)) ∧ ∀ c', (eo (setP ρ p c')).Perm (own c' ++ eo (setP ρ p x)) := by
  obtain ⟨d, h1, h2⟩ := getP_some h
  have o := own_set x hx p.2 h2
  have out := eo_out h1
  have inn : ∀ c', (eo (setP ρ p c')).Perm (own (setD d p.2 c') ++ eo (ρ.set p.1 none)) := fun c' => by rw [setP_of h1]; exact eo_in (lt_of_get h1)
  refine ⟨?_, fun c' => ?_⟩
  · refine out.trans ?_
    refine (o.1.append_right _).trans ?_
    rw [List.append_assoc]
    exact (inn x).symm.append_left _
  · refine (inn c').trans ?_
    refine ((o.2 c').append_right _).trans ?_
    rw [List.append_assoc]
    exact (inn x).symm.append_left _
theorem St.rep_at (s : St K n Z H σ ρ) (h : getP ρ p = some c) : ∃ u, Rep K Z H c u ∧ ∀ c', Rep K Z H c' u → (eo (setP ρ p c')).Nodup → St K n Z H σ (setP ρ p c') := by
  obtain ⟨d, h1, h2⟩ := getP_some h
  obtain ⟨w, hw, r⟩ := s.rep p.1 d h1
  obtain ⟨u, hu, back⟩ := Rep.at p.2 r h2
  refine ⟨u, hu, fun c' r' nn => ⟨s.sub, by rw [s.len, setP_len], by rw [setP_len, s.ln], fun j e he => ?_, nn⟩⟩
  rw [setP_of h1] at he
  by_cases hj : p.1 = j
  · subst hj
    rw [getq_set_self (lt_of_get h1)] at he
    cases he
    exact ⟨w, hw, back c' r'⟩
  · rw [getq_set_ne hj] at he
    exact s.rep j e he
theorem rep_addr (h : addr d = some a) (r : Rep K Z H d v) : v = .ref a := (Rep.node h r).1
theorem St.take (s : St K n Z H σ ρ) (h : getP ρ p = some c) (ha : addr c = some a) : Rep K Z H c (.ref a) ∧ St K n Z H σ (setP ρ p (lent a)) ∧ (eo ρ).Perm (own c ++ eo (setP ρ p (lent a))) ∧ getP (setP ρ p (lent a)) p = some (lent a) ∧ ∀ y, setP (setP ρ p (lent a)) p y = setP ρ p y := by
  obtain ⟨u, r, back⟩ := s.rep_at h
  have e := rep_addr ha r
  have ep := (eo_setP (x := lent a) rfl h).1
  have g := getP_setP (x := lent a) h
  refine ⟨e ▸ r, back _ e ?_, ep, g.1, g.2⟩
  have := ep.nodup_iff.mp s.nd
  exact (List.nodup_append.mp this).2.1
theorem St.put (s : St K n Z H σ ρ) (h : getP ρ p = some (lent a)) (r : Rep K Z H c (.ref a)) (nn : (own c ++ eo ρ).Nodup) : St K n Z H σ (setP ρ p c) ∧ (eo (setP ρ p c)).Perm (own c ++ eo ρ) := by
  obtain ⟨u, hu, back⟩ := s.rep_at h
  have e : u = .ref a := hu
  have g := eo_setP (x := lent a) rfl h
  have h1 : (eo ρ).Perm (eo (setP ρ p (lent a))) := g.1
  have h2 : (eo (setP ρ p c)).Perm (own c ++ eo ρ) := (g.2 c).trans (h1.symm.append_left _)
  exact ⟨back c (e ▸ r) (h2.nodup_iff.mpr nn), h2⟩
end
end DL
set_option Elab.async false
set_option linter.all false
set_option maxRecDepth 100000
namespace DL
open PySem PySem.Spec PyProof.Rows L2

/-- an exception as data -/
structure XD where
  cls : Value
  ns : List Str
  fs : List D
def XRep (K : PySem.W.Frag) (Z H : Hp) (x : XD) (cls : Value) (dd : Option Addr) : Prop :=
  x.cls = cls ∧ owns x.fs = [] ∧ match dd with
    | none => x.ns = [] ∧ x.fs = []
    | some a => ∃ kvs, Z a = some (.xd kvs) ∧ kvs.map (·.1) = x.ns ∧ Reps K Z H x.fs (kvs.map (·.2))

abbrev QX := XD → Env → Prop
abbrev Pw := Env → (D → Prop) → Prop
abbrev Ew := Env → (D → Env → Prop) → QX → Prop
abbrev Tw := Env → (Bool → Env → Prop) → QX → Prop
abbrev Lw := Env → (Path → D → Prop) → Prop
inductive Arg where
  | val (d : D) | lend (p : Path) (a : Addr)
abbrev Aw := Env → (List Arg → Env → Prop) → QX → Prop
structure DEnds where
  nx : Env → Prop
  rt : D → Env → Prop
  bk : Env → Prop := fun _ => False
  ct : Env → Prop := fun _ => False
  xx : QX := fun _ _ => False
abbrev Sw := DEnds → Env → Prop
abbrev Gw := D → Env → (Env → Prop) → Prop
abbrev Iw := Env → (List D → Env → Prop) → QX → Prop

/-- what an expression has left -/
structure Out (K : PySem.W.Frag) (n : Nat) (Z H : Hp) (F : List Addr) (σ : L2.St) (Z' H' : Hp) (v : V) (d : D) (ρ' : Env) : Prop where
  st : St K n Z' H' σ ρ'
  rep : Rep K Z' H' d v
  nd : (own d ++ eo ρ').Nodup
  step : Step Z H F Z' H' (own d ++ eo ρ')
structure OutB (K : PySem.W.Frag) (n : Nat) (Z H : Hp) (F : List Addr) (σ : L2.St) (Z' H' : Hp) (ρ' : Env) : Prop where
  st : St K n Z' H' σ ρ'
  step : Step Z H F Z' H' (eo ρ')
structure OutX (K : PySem.W.Frag) (n : Nat) (Z H : Hp) (F : List Addr) (σ : L2.St) (Z' H' : Hp) (x : XD) (cls : Value) (dd : Option Addr) (ρ' : Env) : Prop where
  st : St K n Z' H' σ ρ'
  rep : XRep K Z' H' x cls dd
  step : Step Z H F Z' H' (eo ρ')
def ARep (K : PySem.W.Frag) (Z H : Hp) : Arg → V → Prop
  | .val d, v => Rep K Z H d v
  | .lend _ a, v => v = .ref a
def AReps (K : PySem.W.Frag) (Z H : Hp) : List Arg → List V → Prop
  | [], vs => vs = []
  | x :: r, vs => ∃ v vr, vs = v :: vr ∧ ARep K Z H x v ∧ AReps K Z H r vr
def aown : Arg → List Addr
  | .val d => own d
  | .lend _ _ => []
def aowns : List Arg → List Addr
  | [] => []
  | x :: r => aown x ++ aowns r
structure OutA (K : PySem.W.Frag) (n : Nat) (Z H : Hp) (F : List Addr) (σ : L2.St) (Z' H' : Hp) (vs : List V) (as : List Arg) (ρ' : Env) : Prop where
  st : St K n Z' H' σ ρ'
  rep : AReps K Z' H' as vs
  nd : (aowns as ++ eo ρ').Nodup
  step : Step Z H F Z' H' (aowns as ++ eo ρ')

/-- the wish about exceptions is met -/
def FitX (K : PySem.W.Frag) (n : Nat) (W : WX) (Z H : Hp) (F : List Addr) (σ : L2.St) (Qx : QX) : Prop :=
  ∀ x cls dd ρ' Z' H', Qx x ρ' → OutX K n Z H F σ Z' H' x cls dd ρ' → W cls dd σ H'

section
variable (X : Cx) (W : WX)
structure DP (e : Expr) (w : Pw) : Prop where
  run : ∃ t, PE X e t ∧ ∀ (σ : L2.St) (H Z : Hp) (ρ : Env) (Q : D → Prop), St X.K X.N.length Z H σ ρ → w ρ Q → ∀ QQ : VK, (∀ v d, Q d → Rep X.K Z H d v → QQ v H) → t σ H QQ
structure DPath (e : Expr) (w : Lw) : Prop where
  run : ∃ t, PE X e t ∧ ∀ (σ : L2.St) (H Z : Hp) (ρ : Env) (Q : Path → D → Prop), St X.K X.N.length Z H σ ρ → w ρ Q → ∀ QQ : VK, (∀ v p d, Q p d → getP ρ p = some d → Rep X.K Z H d v → QQ v H) → t σ H QQ
structure DE (e : Expr) (w : Ew) : Prop where
  run : ∃ t, PE X e t ∧ ∀ (σ : L2.St) (H Z : Hp) (ρ : Env) (Q : D → Env → Prop) (Qx : QX), St X.K X.N.length Z H σ ρ → w ρ Q Qx → FitX X.K X.N.length W Z H (eo ρ) σ Qx →
    ∀ QQ : VK, (∀ v d ρ' Z' H', Q d ρ' → Out X.K X.N.length Z H (eo ρ) σ Z' H' v d ρ' → QQ v H') → t σ H QQ
structure DT (e : Expr) (w : Tw) : Prop where
  run : ∃ t, PT X e t ∧ ∀ (σ : L2.St) (H Z : Hp) (ρ : Env) (Q : Bool → Env → Prop) (Qx : QX), St X.K X.N.length Z H σ ρ → w ρ Q Qx → FitX X.K X.N.length W Z H (eo ρ) σ Qx →
    ∀ QQ : Bool → Hp → Prop, (∀ b ρ' Z' H', Q b ρ' → OutB X.K X.N.length Z H (eo ρ) σ Z' H' ρ' → QQ b H') → t σ H QQ
structure DWt (e : Expr) (w : Tw) : Prop where
  run : ∃ t, PW X e t ∧ ∀ (σ : L2.St) (H Z : Hp) (ρ : Env) (Q : Bool → Env → Prop) (Qx : QX), St X.K X.N.length Z H σ ρ → w ρ Q Qx → FitX X.K X.N.length W Z H (eo ρ) σ Qx →
    ∀ QQ : Bool → Hp → Prop, (∀ b ρ' Z' H', Q b ρ' → OutB X.K X.N.length Z H (eo ρ) σ Z' H' ρ' → QQ b H') → t σ H QQ
structure DA (es : List Expr) (w : Aw) : Prop where
  run : ∃ t, PA X es t ∧ ∀ (σ : L2.St) (H Z : Hp) (ρ : Env) (Q : List Arg → Env → Prop) (Qx : QX), St X.K X.N.length Z H σ ρ → w ρ Q Qx → FitX X.K X.N.length W Z H (eo ρ) σ Qx →
    ∀ QQ : List V → Hp → Prop, (∀ vs as ρ' Z' H', Q as ρ' → OutA X.K X.N.length Z H (eo ρ) σ Z' H' vs as ρ' → QQ vs H') → t σ H QQ
/-- a target; js: the slots that it may store -/
structure DG (e : Expr) (w : Gw) (js : List Nat) : Prop where
  run : ∃ t, PG X e t ∧ ∀ (σ : L2.St) (H Z : Hp) (ρ : Env) (d : D) (v : V) (Q : Env → Prop), St X.K X.N.length Z H σ ρ → Rep X.K Z H d v → (own d ++ eo ρ).Nodup → w d ρ Q →
    ∀ QQ : L2.St → Hp → Prop, (∀ σ' ρ', Q ρ' → St X.K X.N.length Z H σ' ρ' → (∀ a ∈ eo ρ', a ∈ own d ++ eo ρ) → σ'.length = σ.length → (∀ j, j ∉ js → σ'[j]? = σ[j]?) → QQ σ' H) → t v σ H QQ
structure DGs (es : List Expr) (w : List D → Env → (Env → Prop) → Prop) (js : List Nat) : Prop where
  run : ∃ t, PGs X es t ∧ ∀ (σ : L2.St) (H Z : Hp) (ρ : Env) (ds : List D) (vs : List V) (Q : Env → Prop), St X.K X.N.length Z H σ ρ → Reps X.K Z H ds vs → owns ds = [] → w ds ρ Q →
    ∀ QQ : L2.St → Hp → Prop, (∀ σ' ρ', Q ρ' → St X.K X.N.length Z H σ' ρ' → (∀ a ∈ eo ρ', a ∈ eo ρ) → σ'.length = σ.length → (∀ j, j ∉ js → σ'[j]? = σ[j]?) → QQ σ' H) → t vs σ H QQ
end
/-- what is wanted behind a statement is met -/
structure Fit (K : PySem.W.Frag) (n : Nat) (W : WX) (Z H : Hp) (F : List Addr) (D : DEnds) (DD : Ends) : Prop where
  nx : ∀ σ' ρ' Z' H', D.nx ρ' → OutB K n Z H F σ' Z' H' ρ' → DD.nx σ' H'
  bk : ∀ σ' ρ' Z' H', D.bk ρ' → OutB K n Z H F σ' Z' H' ρ' → DD.bk σ' H'
  ct : ∀ σ' ρ' Z' H', D.ct ρ' → OutB K n Z H F σ' Z' H' ρ' → DD.ct σ' H'
  rt : ∀ v d σ' ρ' Z' H', D.rt d ρ' → Out K n Z H F σ' Z' H' v d ρ' → DD.rt v H'
  xx : ∀ σ', FitX K n W Z H F σ' D.xx
structure DS (X : Cx) (W : WX) (st : Stmt) (w : Sw) : Prop where
  run : ∃ t, PS X st t ∧ ∀ (σ : L2.St) (H Z : Hp) (ρ : Env) (D : DEnds) (DD : Ends), St X.K X.N.length Z H σ ρ → w D ρ → Fit X.K X.N.length W Z H (eo ρ) D DD → t DD σ H
structure DSs (X : Cx) (W : WX) (st : List Stmt) (w : Sw) : Prop where
  run : ∃ t, PSs X st t ∧ ∀ (σ : L2.St) (H Z : Hp) (ρ : Env) (D : DEnds) (DD : Ends), St X.K X.N.length Z H σ ρ → w D ρ → Fit X.K X.N.length W Z H (eo ρ) D DD → t DD σ H

section
variable {K : PySem.W.Frag} {n : Nat} {W : WX} {Z H Z' H' : Hp} {F F' : List Addr} {σ σ' : L2.St} {ρ ρ' : Env} {D : DEnds} {DD : Ends} {Qx : QX} {v : V} {d : DL.D} {x : XD} {cls : Value} {dd : Option Addr}
theorem Out.pre {Z1 H1 : Hp} {F1 : List Addr} (s : Step Z H F Z1 H1 F1) (o : Out K n Z1 H1 F1 σ Z' H' v d ρ') : Out K n Z H F σ Z' H' v d ρ' := ⟨o.st, o.rep, o.nd, s.trans o.step⟩
theorem OutB.pre {Z1 H1 : Hp} {F1 : List Addr} (s : Step Z H F Z1 H1 F1) (o : OutB K n Z1 H1 F1 σ Z' H' ρ') : OutB K n Z H F σ Z' H' ρ' := ⟨o.st, s.trans o.step⟩
theorem OutX.pre {Z1 H1 : Hp} {F1 : List Addr} (s : Step Z H F Z1 H1 F1) (o : OutX K n Z1 H1 F1 σ Z' H' x cls dd ρ') : OutX K n Z H F σ Z' H' x cls dd ρ' := ⟨o.st, o.rep, s.trans o.step⟩
theorem OutA.pre {Z1 H1 : Hp} {F1 : List Addr} {vs : List V} {as : List Arg} (s : Step Z H F Z1 H1 F1) (o : OutA K n Z1 H1 F1 σ Z' H' vs as ρ') : OutA K n Z H F σ Z' H' vs as ρ' := ⟨o.st, o.rep, o.nd, s.trans o.step⟩
theorem FitX.pre (f : FitX K n W Z H F σ Qx) (s : Step Z H F Z' H' F') : FitX K n W Z' H' F' σ Qx := fun x cls dd ρ' Z1 H1 q o => f x cls dd ρ' Z1 H1 q (o.pre s)
theorem Fit.pre (f : Fit K n W Z H F D DD) (s : Step Z H F Z' H' F') : Fit K n W Z' H' F' D DD :=
  ⟨fun σ' ρ' Z1 H1 q o => f.nx σ' ρ' Z1 H1 q (o.pre s), fun σ' ρ' Z1 H1 q o => f.bk σ' ρ' Z1 H1 q (o.pre s), fun σ' ρ' Z1 H1 q o => f.ct σ' ρ' Z1 H1 q (o.pre s), fun v d σ' ρ' Z1 H1 q o => f.rt v d σ' ρ' Z1 H1 q (o.pre s), fun σ' => (f.xx σ').pre s⟩
theorem FitX.none : FitX K n W Z H F σ (fun _ _ => False) := fun _ _ _ _ _ _ q _ => q.elim
theorem Out.b (o : Out K n Z H F σ Z' H' v d ρ') : OutB K n Z H F σ Z' H' ρ' := ⟨o.st, o.step.sub fun a ha => List.mem_append_right _ ha⟩
theorem nd_of_nil {a : List Addr} {l : List Addr} (h : a = []) (n : l.Nodup) : (a ++ l).Nodup := by rw [h]; exact n
/-- own of what is an int .. -/
theorem Out.same (s : St K n Z H σ ρ) (r : Rep K Z H d v) (h : own d = []) : Out K n Z H (eo ρ) σ Z H v d ρ := ⟨s, r, nd_of_nil h s.nd, by rw [h]; exact Step.refl _ _ _⟩
theorem OutB.same (s : St K n Z H σ ρ) : OutB K n Z H (eo ρ) σ Z H ρ := ⟨s, Step.refl _ _ _⟩
end

/-! ### pure expressions -/
section
variable {X : Cx} {W : WX} {a b e : Expr} {pos : Pos} {wa wb : Pw} {op : Operator}
def pVar (i : Nat) : Pw := fun ρ Q => match ρ[i]? with
  | some (some d) => Q d
  | _ => False
def pC (d : D) : Pw := fun _ Q => Q d
theorem dp_var (i : Nat) {x : Str} {pos : Pos} (hN : X.N[i]? = some x := by rfl) (hv : Vis X.env.scope x := by first | exact Or.inl rfl | exact Or.inr (Or.inl rfl) | exact Or.inr (Or.inr rfl)) (hd : (x == ("__debug__" : Str)) = false := by decide) (hcd : (x == ("__classdict__" : Str)) = false := by decide) : DP X (.Name x pos) (pVar i) := by
  refine ⟨_, pe_var hN hv hd hcd, fun σ H Z ρ Q s w QQ q => ?_⟩
  unfold pVar at w
  cases h : ρ[i]? with
  | none => rw [h] at w; exact w.elim
  | some o => cases o with
    | none => rw [h] at w; exact w.elim
    | some d =>
      rw [h] at w
      obtain ⟨v, h1, r⟩ := s.rep i d h
      exact ⟨v, h1, q v d w r⟩
theorem dp_int {i : Int} {j pos} : DP X (.Constant (.int i) j pos) (pC (.int i)) := ⟨_, pe_int, fun σ H Z ρ Q s w QQ q => q _ _ w rfl⟩
theorem dp_bl {b : Bool} {j pos} : DP X (.Constant (.bool b) j pos) (pC (.bl b)) := ⟨_, pe_bl, fun σ H Z ρ Q s w QQ q => q _ _ w rfl⟩
theorem dp_non {j pos} : DP X (.Constant .none j pos) (pC .non) := ⟨_, pe_non, fun σ H Z ρ Q s w QQ q => q _ _ w rfl⟩
theorem dp_str {x : Str} {j pos} : DP X (.Constant (.str x) j pos) (pC (.str x)) := ⟨_, pe_str, fun σ H Z ρ Q s w QQ q => q _ _ w rfl⟩
theorem dp_glob {x : Str} {v : V} {u : Value} {d : D} {pos : Pos} (hg : Gl X x) (hm : X.mg x = some u) (r : RelV v u) (rep : ∀ Z H, Rep X.K Z H d v) (hd : (x == ("__debug__" : Str)) = false := by decide) : DP X (.Name x pos) (pC d) :=
  ⟨_, pe_glob hg hm r hd, fun σ H Z ρ Q s w QQ q => q _ _ w (rep Z H)⟩
theorem dp_type {x : Str} {T : String} {pos : Pos} (hg : Gl X x) (hm : X.mg x = none) (hv : bootBuiltins x = some (.type T)) (hn : x ≠ "__name__" := by decide) (hd : (x == ("__debug__" : Str)) = false := by decide) : DP X (.Name x pos) (pC (.cv (.ty T))) :=
  ⟨_, pe_bltn (v := .ty T) hg hm hv rfl hn hd, fun σ H Z ρ Q s w QQ q => q _ _ w rfl⟩

/-- a two-place operation by data, that lays nothing -/
abbrev RD := D → D → (D → Prop) → Prop
def DOp (X : Cx) (f : Value → Value → Sem Value) (rd : RD) : Prop :=
  ∃ r, OpR X f r ∧ ∀ (Z H : Hp) (x y : D) (u v : V) (Q : D → Prop), Sub Z H → Rep X.K Z H x u → Rep X.K Z H y v → rd x y Q → ∀ QQ : VK, (∀ w d, Q d → Rep X.K Z H d w → own d = [] → QQ w H) → r u v H QQ
def pOp (rd : RD) (wa wb : Pw) : Pw := fun ρ Q => wa ρ fun x => wb ρ fun y => rd x y Q
theorem dp_op {rd : RD} (ho : DOp X (binaryOp op) rd) (ha : DP X a wa) (hb : DP X b wb) : DP X (.BinOp a op b pos) (pOp rd wa wb) := by
  obtain ⟨r, hr, hd⟩ := ho
  obtain ⟨ta, pa, ra⟩ := ha
  obtain ⟨tb, pb, rb⟩ := hb
  refine ⟨_, pe_op hr pa pb, fun σ H Z ρ Q s w QQ q => ?_⟩
  refine ra σ H Z ρ _ s w _ fun u x wx rx => ?_
  refine rb σ H Z ρ _ s wx _ fun v y wy ry => ?_
  exact hd Z H x y u v Q s.sub rx ry wy QQ fun w d hq hr _ => q w d hq hr
theorem dp_cmp {c : CmpOp} {rd : RD} (ho : DOp X (compareOp c) rd) (ha : DP X a wa) (hb : DP X b wb) (hm : behindInMarks c b = false) : DP X (.Compare a [c] [b] pos) (pOp rd wa wb) := by
  obtain ⟨r, hr, hd⟩ := ho
  obtain ⟨ta, pa, ra⟩ := ha
  obtain ⟨tb, pb, rb⟩ := hb
  refine ⟨_, pe_cmpR hr pa pb hm, fun σ H Z ρ Q s w QQ q => ?_⟩
  refine ra σ H Z ρ _ s w _ fun u x wx rx => ?_
  refine rb σ H Z ρ _ s wx _ fun v y wy ry => ?_
  exact hd Z H x y u v Q s.sub rx ry wy QQ fun w d hq hr _ => q w d hq hr
/-- ints -/
def rdI (C : Int → Int → Prop) (g : Int → Int → D) : RD := fun x y Q => match x, y with
  | .int i, .int j => C i j ∧ Q (g i j)
  | _, _ => False
def rdI0 (g : Int → Int → D) : RD := fun x y Q => match x, y with
  | .int i, .int j => Q (g i j)
  | _, _ => False
theorem rdI_of {C : Int → Int → Prop} {g : Int → Int → D} {x y : D} {Q : D → Prop} (h : rdI C g x y Q) : ∃ i j, x = .int i ∧ y = .int j ∧ C i j ∧ Q (g i j) := by
  unfold rdI at h
  split at h
  · exact ⟨_, _, rfl, rfl, h⟩
  · exact h.elim
theorem rdI0_of {g : Int → Int → D} {x y : D} {Q : D → Prop} (h : rdI0 g x y Q) : ∃ i j, x = .int i ∧ y = .int j ∧ Q (g i j) := by
  unfold rdI0 at h
  split at h
  · exact ⟨_, _, rfl, rfl, h⟩
  · exact h.elim
theorem dop_I {f : Value → Value → Sem Value} {C : Int → Int → Prop} {g : Int → Int → Int} (h : OpR X f (rI C fun i j => .int (g i j))) : DOp X f (rdI C fun i j => .int (g i j)) := by
  refine ⟨_, h, fun Z H x y u v Q _ rx ry w QQ q => ?_⟩
  obtain ⟨i, j, rfl, rfl, c, w⟩ := rdI_of w
  rw [show u = .int i from rx, show v = .int j from ry]
  exact ⟨i, j, rfl, rfl, c, q _ _ w rfl rfl⟩
theorem dop_I0 {f : Value → Value → Sem Value} {g : Int → Int → Int} (h : OpR X f (rI0 fun i j => .int (g i j))) : DOp X f (rdI0 fun i j => .int (g i j)) := by
  refine ⟨_, h, fun Z H x y u v Q _ rx ry w QQ q => ?_⟩
  obtain ⟨i, j, rfl, rfl, w⟩ := rdI0_of w
  rw [show u = .int i from rx, show v = .int j from ry]
  exact ⟨i, j, rfl, rfl, q _ _ w rfl rfl⟩
theorem dop_B0 {f : Value → Value → Sem Value} {g : Int → Int → Bool} (h : OpR X f (rI0 fun i j => .bl (g i j))) : DOp X f (rdI0 fun i j => .bl (g i j)) := by
  refine ⟨_, h, fun Z H x y u v Q _ rx ry w QQ q => ?_⟩
  obtain ⟨i, j, rfl, rfl, w⟩ := rdI0_of w
  rw [show u = .int i from rx, show v = .int j from ry]
  exact ⟨i, j, rfl, rfl, q _ _ w rfl rfl⟩
theorem dop_add : DOp X (binaryOp .Add) (rdI0 fun i j => .int (i + j)) := dop_I0 op_add
theorem dop_sub : DOp X (binaryOp .Sub) (rdI0 fun i j => .int (i - j)) := dop_I0 op_sub
def MulOk (i j : Int) : Prop := CMul i j ∨ CMulW i j
theorem dop_mul : DOp X (binaryOp .Mult) (rdI MulOk fun i j => .int (i * j)) := by
  refine ⟨_, OpR.or op_mul op_mulW, fun Z H x y u v Q _ rx ry w QQ q => ?_⟩
  obtain ⟨i, j, rfl, rfl, c, w⟩ := rdI_of w
  rw [show u = .int i from rx, show v = .int j from ry]
  rcases c with c | c
  · exact .inl ⟨i, j, rfl, rfl, c, q _ _ w rfl rfl⟩
  · exact .inr ⟨i, j, rfl, rfl, c, q _ _ w rfl rfl⟩
theorem dop_fdiv : DOp X (binaryOp .FloorDiv) (rdI CDivW fun i j => .int (i / j)) := dop_I op_fdivW
theorem dop_mod : DOp X (binaryOp .Mod) (rdI (fun _ j => 0 < j) fun i j => .int (i % j)) := dop_I op_mod
theorem dop_pow : DOp X (binaryOp .Pow) (rdI CPow fun i j => .int (i ^ j.toNat)) := dop_I op_pow
theorem dop_lt : DOp X (compareOp .Lt) (rdI0 fun i j => .bl (decide (i < j))) := dop_B0 op_lt
theorem dop_le : DOp X (compareOp .LtE) (rdI0 fun i j => .bl (decide (i ≤ j))) := dop_B0 op_le
theorem dop_gt : DOp X (compareOp .Gt) (rdI0 fun i j => .bl (decide (j < i))) := dop_B0 op_gt
theorem dop_ge : DOp X (compareOp .GtE) (rdI0 fun i j => .bl (decide (j ≤ i))) := dop_B0 op_ge
/-- the scalars that == tells apart -/
def sc : D → Option V
  | .non => some .non
  | .bl b => some (.bl b)
  | .int i => some (.int i)
  | .str x => some (.str x)
  | _ => none
theorem sc_rep {K : PySem.W.Frag} {Z H : Hp} {d : D} {u v : V} (h : sc d = some u) (r : Rep K Z H d v) : v = u := by
  cases d <;> first | (cases h; exact r) | cases h
def rdEq : RD := fun x y Q => match sc x, sc y with
  | some u, some v => scal u v = true ∧ Q (.bl (decide (u = v)))
  | _, _ => False
def rdNe : RD := fun x y Q => match sc x, sc y with
  | some u, some v => scal u v = true ∧ Q (.bl (!decide (u = v)))
  | _, _ => False
theorem dop_eq : DOp X (compareOp .Eq) rdEq := by
  refine ⟨_, op_eq, fun Z H x y u v Q _ rx ry w QQ q => ?_⟩
  unfold rdEq at w
  split at w
  · rename_i a b h1 h2
    rw [sc_rep h1 rx, sc_rep h2 ry]
    exact ⟨w.1, q _ _ w.2 rfl rfl⟩
  · exact w.elim
theorem dop_ne : DOp X (compareOp .NotEq) rdNe := by
  refine ⟨_, op_ne, fun Z H x y u v Q _ rx ry w QQ q => ?_⟩
  unfold rdNe at w
  split at w
  · rename_i a b h1 h2
    rw [sc_rep h1 rx, sc_rep h2 ry]
    exact ⟨w.1, q _ _ w.2 rfl rfl⟩
  · exact w.elim
/-- is None -/
def isN : D → Option Bool
  | .hole => none
  | .cv v => some (decide (v = .non))
  | .non => some true
  | _ => some false
theorem isN_rep {K : PySem.W.Frag} {Z H : Hp} {d : D} {b : Bool} {v : V} (h : isN d = some b) (r : Rep K Z H d v) : decide (v = .non) = b := by
  cases d with
  | hole => cases h
  | non => cases h; rw [show v = .non from r]; rfl
  | bl c => cases h; rw [show v = .bl c from r]; rfl
  | int c => cases h; rw [show v = .int c from r]; rfl
  | str c => cases h; rw [show v = .str c from r]; rfl
  | cv c => cases h; rw [show v = c from r]
  | tup l => cases h; obtain ⟨_, a, _, e, _⟩ := r; rw [e]; rfl
  | lsk l => cases h; obtain ⟨_, a, _, e, _⟩ := r; rw [e]; rfl
  | lst m l => cases h; cases m with
    | none => obtain ⟨_, a, _, e, _⟩ := r; rw [e]; rfl
    | some a => obtain ⟨e, _⟩ := r; rw [e]; rfl
  | dct m ks l => cases h; cases m with
    | none => obtain ⟨_, a, _, e, _⟩ := r; rw [e]; rfl
    | some a => obtain ⟨e, _⟩ := r; rw [e]; rfl
  | ins m C ns l => cases h; cases m with
    | none => obtain ⟨_, a, dx, fs, e, _⟩ := r; rw [e]; rfl
    | some a => obtain ⟨e, _⟩ := r; rw [e]; rfl
def rdIsN : RD := fun x y Q => match y with
  | .non => (match isN x with
    | some b => Q (.bl b)
    | none => False)
  | _ => False
def rdNotN : RD := fun x y Q => match y with
  | .non => (match isN x with
    | some b => Q (.bl (!b))
    | none => False)
  | _ => False
theorem dop_isN : DOp X (compareOp .Is) rdIsN := by
  refine ⟨_, op_isN, fun Z H x y u v Q _ rx ry w QQ q => ?_⟩
  cases y with
  | non =>
    cases h : isN x with
    | none => simp only [rdIsN, h] at w
    | some b =>
      simp only [rdIsN, h] at w
      exact ⟨ry, q _ _ w (by rw [isN_rep h rx]; exact rfl) rfl⟩
  | _ => exact w.elim
theorem dop_notN : DOp X (compareOp .IsNot) rdNotN := by
  refine ⟨_, op_notN, fun Z H x y u v Q _ rx ry w QQ q => ?_⟩
  cases y with
  | non =>
    cases h : isN x with
    | none => simp only [rdNotN, h] at w
    | some b =>
      simp only [rdNotN, h] at w
      exact ⟨ry, q _ _ w (by rw [isN_rep h rx]; exact rfl) rfl⟩
  | _ => exact w.elim
/-- one-place -/
def pNeg (wa : Pw) : Pw := fun ρ Q => wa ρ fun x => match x with
  | .int i => Q (.int (-i))
  | _ => False
theorem dp_neg (ha : DP X a wa) : DP X (.UnaryOp .USub a pos) (pNeg wa) := by
  obtain ⟨ta, pa, ra⟩ := ha
  refine ⟨_, pe_un un_neg pa, fun σ H Z ρ Q s w QQ q => ?_⟩
  refine ra σ H Z ρ _ s w _ fun u x wx rx => ?_
  cases x with
  | int i => rw [show u = .int i from rx]; exact ⟨i, rfl, q _ _ wx rfl⟩
  | _ => exact wx.elim
/-- a[i] of a list, a tuple, a text -/
def pIx (wa wb : Pw) : Pw := fun ρ Q => wa ρ fun x => wb ρ fun y => match x, y with
  | .tup l, .int i => (match atI l i with
    | some d => Q d
    | none => False)
  | .lst _ l, .int i => (match atI l i with
    | some d => Q d
    | none => False)
  | .lsk l, .int i => (match atI l i with
    | some d => Q d
    | none => False)
  | .str z, .int i => z.length ≤ sizeLine ∧ (match atI z.cps.toList i with
    | some c => Q (.str ⟨#[c]⟩)
    | none => False)
  | _, _ => False
theorem Reps.atI {K : PySem.W.Frag} {Z H : Hp} {l : List D} {vs : List V} {i : Int} {d : D} (r : Reps K Z H l vs) (h : L2.atI l i = some d) : ∃ v, L2.atI vs i = some v ∧ Rep K Z H d v := by
  unfold L2.atI at h ⊢
  rw [r.length]
  cases e : ixN l.length i with
  | none => rw [e] at h; cases h
  | some j =>
    rw [e] at h
    obtain ⟨v, h1, h2⟩ := r.get (i := j) h
    exact ⟨v, h1, h2⟩
theorem lst_read {K : PySem.W.Frag} {Z H : Hp} {m : Option Addr} {l : List D} {v : V} (s : Sub Z H) (r : Rep K Z H (.lst m l) v) : ∃ a vs, v = .ref a ∧ H a = some (.lst vs) ∧ Reps K Z H l vs := by
  cases m with
  | none => obtain ⟨_, a, vs, e, hs, hr⟩ := r; exact ⟨a, vs, e, s a _ hs, hr⟩
  | some a => obtain ⟨e, _, vs, hs, hr⟩ := r; exact ⟨a, vs, e, hs, hr⟩
theorem dp_ix (ha : DP X a wa) (hb : DP X b wb) (hs : PlainIx b) : DP X (.Subscript a b pos) (pIx wa wb) := by
  obtain ⟨ta, pa, ra⟩ := ha
  obtain ⟨tb, pb, rb⟩ := hb
  refine ⟨_, pe_ix ix_seq pa pb hs, fun σ H Z ρ Q s w QQ q => ?_⟩
  refine ra σ H Z ρ _ s w _ fun u x wx rx => ?_
  refine rb σ H Z ρ _ s wx _ fun v y wy ry => ?_
  cases y with
  | int i =>
    rw [show v = .int i from ry]
    cases x with
    | tup l =>
      cases h : atI l i with
      | none => simp only [h] at wy
      | some d =>
        simp only [h] at wy
        obtain ⟨n, p, vs, e, hs', hr⟩ := rx
        obtain ⟨c, h1, h2⟩ := hr.atI h
        exact .inr (.inl ⟨p, vs, i, c, e, rfl, sub_t s.sub hs', h1, q _ _ wy h2⟩)
    | lst m l =>
      cases h : atI l i with
      | none => simp only [h] at wy
      | some d =>
        simp only [h] at wy
        obtain ⟨p, vs, e, hs', hr⟩ := lst_read s.sub rx
        obtain ⟨c, h1, h2⟩ := hr.atI h
        exact .inl ⟨p, vs, i, c, e, rfl, SqL.of hs', h1, q _ _ wy h2⟩
    | lsk l =>
      cases h : atI l i with
      | none => simp only [h] at wy
      | some d =>
        simp only [h] at wy
        obtain ⟨n, p, vs, e, hs', hr⟩ := rx
        obtain ⟨c, h1, h2⟩ := hr.atI h
        exact .inl ⟨p, vs, i, c, e, rfl, sub_l s.sub hs', h1, q _ _ wy h2⟩
    | str z =>
      obtain ⟨hz, wy⟩ := wy
      cases h : atI z.cps.toList i with
      | none => simp only [h] at wy
      | some c =>
        simp only [h] at wy
        exact .inr (.inr ⟨z, i, c, rx, rfl, hz, h, q _ _ wy rfl⟩)
    | _ => exact wy.elim
  | _ => cases x <;> exact wy.elim
/-- len -/
def lenD : D → Option Nat
  | .tup l => some l.length
  | .lst _ l => some l.length
  | .lsk l => some l.length
  | _ => none
def pLen (wa : Pw) : Pw := fun ρ Q => wa ρ fun x => match x with
  | .str z => z.length ≤ sizeLine ∧ Q (.int z.length)
  | x => (match lenD x with
    | some n => Q (.int n)
    | none => False)
theorem dp_len {p : Pos} (ha : DP X a wa) (hg : Gl X "len") (hm : X.mg "len" = none) (he : starEach [a] X.env = [(false, eval a X.env)] := by rfl) : DP X (.Call (.Name "len" p) [a] [] pos) (pLen wa) := by
  obtain ⟨ta, pa, ra⟩ := ha
  refine ⟨_, pe_callB (CallR.or call_len_seq call_len_str) hg hm PySem.boot_len (pa_cons pa pa_nil he) (by decide) (by decide) he (by rfl), fun σ H Z ρ Q s w QQ q => ?_⟩
  refine ra σ H Z ρ _ s w _ fun u x wx rx => ?_
  cases x with
  | tup l =>
    obtain ⟨n, p, vs, e, hs', hr⟩ := rx
    exact .inl ⟨p, vs, by rw [e], .inr (sub_t s.sub hs'), by rw [hr.length]; exact q _ _ wx rfl⟩
  | lst m l =>
    obtain ⟨p, vs, e, hs', hr⟩ := lst_read s.sub rx
    exact .inl ⟨p, vs, by rw [e], .inl (SqL.of hs'), by rw [hr.length]; exact q _ _ wx rfl⟩
  | lsk l =>
    obtain ⟨n, p, vs, e, hs', hr⟩ := rx
    exact .inl ⟨p, vs, by rw [e], .inl (sub_l s.sub hs'), by rw [hr.length]; exact q _ _ wx rfl⟩
  | str z => exact .inr ⟨z, by rw [show u = .str z from rx], wx.1, q _ _ wx.2 rfl⟩
  | _ => exact wx.elim
end

/-! ### expressions that may lay, change, raise -/
section
variable {X : Cx} {W : WX} {a b c e : Expr} {es : List Expr} {pos : Pos} {wp wq : Pw} {wa wb : Ew} {wt : Tw} {ws : Aw} {op : Operator}
/-- a pure one; what it gives is owned by nobody -/
def ePure (wp : Pw) : Ew := fun ρ Q _ => wp ρ fun d => own d = [] ∧ Q d ρ
theorem de_pure (h : DP X e wp) : DE X W e (ePure wp) := by
  obtain ⟨t, p, r⟩ := h
  refine ⟨_, p, fun σ H Z ρ Q Qx s w fx QQ q => ?_⟩
  exact r σ H Z ρ _ s w QQ fun v d hq hr => q v d ρ Z H hq.2 (Out.same s hr hq.1)
/-- the topmost node made known -/
def fr1 : D → D
  | .lst _ l => .lst none l
  | .dct _ ks l => .dct none ks l
  | .ins _ C ns l => .ins none C ns l
  | d => d
theorem frz_fr1 {d : D} (h : own (fr1 d) = []) : frz d = fr1 d := by
  cases d with
  | lst m l => show D.lst none (frzs l) = D.lst none l; rw [frzs_of l h]
  | dct m ks l => show D.dct none ks (frzs l) = D.dct none ks l; rw [frzs_of l h]
  | ins m C ns l => show D.ins none C ns (frzs l) = D.ins none C ns l; rw [frzs_of l h]
  | tup l => exact frz_of _ h
  | lsk l => exact frz_of _ h
  | _ => rfl
/-- a name whose value is made known for good -/
def eFrz (i : Nat) : Ew := fun ρ Q _ => match ρ[i]? with
  | some (some d) => own (fr1 d) = [] ∧ Q (fr1 d) (ρ.set i (some (fr1 d)))
  | _ => False
def eMov (i : Nat) : Ew := fun ρ Q _ => match ρ[i]? with
  | some (some d) => Q d (ρ.set i none)
  | _ => False
theorem de_mov (i : Nat) {x : Str} {pos : Pos} (hN : X.N[i]? = some x := by rfl) (hv : Vis X.env.scope x := by first | exact Or.inl rfl | exact Or.inr (Or.inl rfl) | exact Or.inr (Or.inr rfl)) (hd : (x == ("__debug__" : Str)) = false := by decide) (hcd : (x == ("__classdict__" : Str)) = false := by decide) : DE X W (.Name x pos) (eMov i) := by
  refine ⟨_, pe_var hN hv hd hcd, fun σ H Z ρ Q Qx s w fx QQ q => ?_⟩
  unfold eMov at w
  cases h : ρ[i]? with
  | none => rw [h] at w; exact w.elim
  | some o => cases o with
    | none => rw [h] at w; exact w.elim
    | some d =>
      rw [h] at w
      obtain ⟨v, h1, r⟩ := s.rep i d h
      have ep := eo_out h
      refine ⟨v, h1, q v d _ Z H w ⟨⟨s.sub, by simp [s.len], by simp [s.ln], fun j e he => ?_, s.nd.sublist eo_none_sub⟩, r, ep.nodup_iff.mp s.nd, (Step.refl _ _ _).sub fun a ha => ep.mem_iff.mpr ha⟩⟩
      by_cases hj : i = j
      · subst hj
        rw [getq_set_self (lt_of_get h)] at he; cases he
      · rw [getq_set_ne hj] at he; exact s.rep j e he
theorem de_frz (i : Nat) {x : Str} {pos : Pos} (hN : X.N[i]? = some x := by rfl) (hv : Vis X.env.scope x := by first | exact Or.inl rfl | exact Or.inr (Or.inl rfl) | exact Or.inr (Or.inr rfl)) (hd : (x == ("__debug__" : Str)) = false := by decide) (hcd : (x == ("__classdict__" : Str)) = false := by decide) : DE X W (.Name x pos) (eFrz i) := by
  refine ⟨_, pe_var hN hv hd hcd, fun σ H Z ρ Q Qx s w fx QQ q => ?_⟩
  unfold eFrz at w
  cases h : ρ[i]? with
  | none => rw [h] at w; exact w.elim
  | some o => cases o with
    | none => rw [h] at w; exact w.elim
    | some d =>
      rw [h] at w
      obtain ⟨hown, w⟩ := w
      rw [← frz_fr1 hown] at w
      obtain ⟨v, h1, r⟩ := s.rep i d h
      have ep := eo_out h
      have hF : ∀ a ∈ own d, Z a = none := fun a ha => (Rep.ownd d v r a ha).1
      have nd := List.nodup_append.mp (ep.nodup_iff.mp s.nd)
      have ei := eo_in (ρ := ρ) (i := i) (d := frz d) (lt_of_get h)
      rw [own_frz] at ei
      have hG : ∀ a ∈ own d, a ∈ eo ρ := fun a ha => ep.mem_iff.mpr (List.mem_append_left _ ha)
      have rf : Rep X.K (fz Z H (own d)) H (frz d) v := Rep.frz hF d v (fun a ha => ha) r
      have ndi : (eo (ρ.set i (some (frz d)))).Nodup := ei.nodup_iff.mpr nd.2.1
      refine ⟨v, h1, q v (frz d) _ (fz Z H (own d)) H w ⟨⟨fz_le s.sub, by simp [s.len], by simp [s.ln], fun j e he => ?_, ndi⟩, rf, nd_of_nil (own_frz d) ndi, ?_⟩⟩
      · by_cases hj : i = j
        · subst hj
          rw [getq_set_self (lt_of_get h)] at he; cases he
          exact ⟨v, h1, rf⟩
        · rw [getq_set_ne hj] at he
          obtain ⟨u, hu, ru⟩ := s.rep j e he
          refine ⟨u, hu, Rep.mono (fz_sub hF) e u (fun a _ o e => e) (fun a ha => ?_) ru⟩
          have : a ∈ eo (ρ.set i none) := eo_mem.mpr ⟨j, e, by rw [getq_set_ne hj]; exact he, ha⟩
          rw [fz_out fun hc => nd.2.2 a hc a this rfl]
          exact (Rep.ownd e u ru a ha).1
      · rw [own_frz]
        refine (step_fz hF hG).sub fun a ha => ?_
        have : a ∈ eo (ρ.set i none) := ei.mem_iff.mp ha
        exact ep.mem_iff.mpr (List.mem_append_right _ this)
/-- what an expression gives is made known for good -/
def eKeep (wa : Ew) : Ew := fun ρ Q Qx => wa ρ (fun d ρ' => own (fr1 d) = [] ∧ Q (fr1 d) ρ') Qx
theorem Out.frz {K : PySem.W.Frag} {n : Nat} {Z H Z' H' : Hp} {F : List Addr} {σ : L2.St} {v : V} {d : D} {ρ' : Env} (o : Out K n Z H F σ Z' H' v d ρ') : Out K n Z H F σ (fz Z' H' (own d)) H' v (DL.frz d) ρ' := by
  have hF : ∀ a ∈ own d, Z' a = none := fun a ha => (Rep.ownd d v o.rep a ha).1
  have nd := List.nodup_append.mp o.nd
  refine ⟨o.st.freeze hF fun a ha hc => nd.2.2 a hc a ha rfl, Rep.frz hF d v (fun a ha => ha) o.rep, nd_of_nil (own_frz d) nd.2.1, ?_⟩
  rw [own_frz]
  exact (o.step.trans (step_fz hF fun a ha => List.mem_append_left _ ha)).sub fun a ha => List.mem_append_right _ ha
theorem de_keep (h : DE X W e wa) : DE X W e (eKeep wa) := by
  obtain ⟨t, p, r⟩ := h
  refine ⟨_, p, fun σ H Z ρ Q Qx s w fx QQ q => ?_⟩
  exact r σ H Z ρ _ Qx s w fx QQ fun v d ρ' Z' H' hq o => q v (frz d) ρ' _ H' (by rw [frz_fr1 hq.1]; exact hq.2) o.frz
/-- two-place operations, the operands of any kind -/
def eOp (rd : RD) (wa wb : Ew) : Ew := fun ρ Q Qx => wa ρ (fun x ρ1 => own x = [] ∧ wb ρ1 (fun y ρ2 => rd x y fun z => Q z ρ2) Qx) Qx
theorem de_bin {rd : RD} {f : Value → Value → Sem Value} {e : Expr} (ho : DOp X f rd) (ha : DE X W a wa) (hb : DE X W b wb) (he : ∀ {r ta tb}, OpR X f r → PE X a ta → PE X b tb → PE X e (tOp r ta tb)) : DE X W e (eOp rd wa wb) := by
  obtain ⟨r, hr, hd⟩ := ho
  obtain ⟨ta, pa, ra⟩ := ha
  obtain ⟨tb, pb, rb⟩ := hb
  refine ⟨_, he hr pa pb, fun σ H Z ρ Q Qx s w fx QQ q => ?_⟩
  refine ra σ H Z ρ _ Qx s w fx _ fun u x ρ1 Z1 H1 wx o1 => ?_
  have s1 : Step Z H (eo ρ) Z1 H1 (eo ρ1) := o1.b.step
  refine rb σ H1 Z1 ρ1 _ Qx o1.st wx.2 (fx.pre s1) _ fun v y ρ2 Z2 H2 wy o2 => ?_
  have rx : Rep X.K Z2 H2 x u := Rep.sh o2.step.zz wx.1 o1.rep
  refine hd Z2 H2 x y u v _ o2.st.sub rx o2.rep wy QQ fun z d hq hr hn => ?_
  refine q z d ρ2 Z2 H2 hq ⟨o2.st, hr, nd_of_nil hn o2.st.nd, ?_⟩
  rw [hn]
  exact s1.trans o2.b.step
theorem de_op {rd : RD} (ho : DOp X (binaryOp op) rd) (ha : DE X W a wa) (hb : DE X W b wb) : DE X W (.BinOp a op b pos) (eOp rd wa wb) := de_bin ho ha hb fun hr pa pb => pe_op hr pa pb
theorem de_cmp {c : CmpOp} {rd : RD} (ho : DOp X (compareOp c) rd) (ha : DE X W a wa) (hb : DE X W b wb) (hm : behindInMarks c b = false) : DE X W (.Compare a [c] [b] pos) (eOp rd wa wb) := de_bin ho ha hb fun hr pa pb => pe_cmpR hr pa pb hm
/-- argument lists -/
def aNil : Aw := fun ρ Q _ => Q [] ρ
def aVal (we : Ew) (wr : Aw) : Aw := fun ρ Q Qx => we ρ (fun d ρ1 => wr ρ1 (fun as ρ2 => Q (.val d :: as) ρ2) Qx) Qx
def aLend (wp : Lw) (wr : Aw) : Aw := fun ρ Q Qx => wp ρ fun p d => ∃ a, addr d = some a ∧ wr ρ (fun as ρ2 => Q (.lend p a :: as) ρ2) Qx
theorem da_nil : DA X W [] aNil := ⟨_, pa_nil, fun σ H Z ρ Q Qx s w fx QQ q => q [] [] ρ Z H w ⟨s, rfl, s.nd, Step.refl _ _ _⟩⟩
theorem da_val {wr : Aw} (ha : DE X W e wa) (hr : DA X W es wr) (hs : starEach (e :: es) X.env = (false, eval e X.env) :: starEach es X.env := by rfl) : DA X W (e :: es) (aVal wa wr) := by
  obtain ⟨ta, pa, ra⟩ := ha
  obtain ⟨tr, pr, rr⟩ := hr
  refine ⟨_, pa_cons pa pr hs, fun σ H Z ρ Q Qx s w fx QQ q => ?_⟩
  refine ra σ H Z ρ _ Qx s w fx _ fun u x ρ1 Z1 H1 wx o1 => ?_
  have s1 : Step Z H (eo ρ) Z1 H1 (eo ρ1) := o1.b.step
  refine rr σ H1 Z1 ρ1 _ Qx o1.st wx (fx.pre s1) _ fun vs as ρ2 Z2 H2 wy o2 => ?_
  have nd1 := List.nodup_append.mp o1.nd
  have ow := Rep.ownd x u o1.rep
  have rx : Rep X.K Z2 H2 x u := Rep.aside o2.step o1.rep (fun a ha hc => nd1.2.2 a ha a hc rfl) (fun a ha => (ow a ha).1) (fun a ha => (ow a ha).2)
  have dis : ∀ a ∈ own x, a ∉ aowns as ++ eo ρ2 := fun a ha hc => by
    rcases o2.step.fre a hc with z | z
    · exact nd1.2.2 a ha a z rfl
    · exact (ow a ha).2 z
  refine q (u :: vs) (.val x :: as) ρ2 Z2 H2 wy ⟨o2.st, ⟨u, vs, rfl, rx, o2.rep⟩, ?_, ?_⟩
  · show (own x ++ aowns as ++ eo ρ2).Nodup
    rw [List.append_assoc]
    exact List.nodup_append.mpr ⟨nd1.1, o2.nd, fun a ha b hb e => dis a ha (e ▸ hb)⟩
  · refine ⟨o1.step.zz.trans o2.step.zz, (s1.trans o2.step).keep, fun a ha => ?_, (s1.trans o2.step).zfr⟩
    have ha' : a ∈ own x ++ aowns as ++ eo ρ2 := ha
    rw [List.append_assoc] at ha'
    rcases List.mem_append.mp ha' with z | z
    · exact o1.step.fre a (List.mem_append_left _ z)
    · exact (s1.trans o2.step).fre a z
theorem da_lend {wr : Aw} {wl : Lw} (ha : DPath X e wl) (hr : DA X W es wr) (hs : starEach (e :: es) X.env = (false, eval e X.env) :: starEach es X.env := by rfl) : DA X W (e :: es) (aLend wl wr) := by
  obtain ⟨ta, pa, ra⟩ := ha
  obtain ⟨tr, pr, rr⟩ := hr
  refine ⟨_, pa_cons pa pr hs, fun σ H Z ρ Q Qx s w fx QQ q => ?_⟩
  refine ra σ H Z ρ _ s w _ fun u p d wx hg hp => ?_
  obtain ⟨ad, had, wx⟩ := wx
  refine rr σ H Z ρ _ Qx s wx fx _ fun vs as ρ2 Z2 H2 wy o2 => ?_
  exact q (u :: vs) (.lend p ad :: as) ρ2 Z2 H2 wy ⟨o2.st, ⟨u, vs, rfl, rep_addr had hp, o2.rep⟩, o2.nd, o2.step⟩
/-- displays -/
def valsOf : List Arg → Option (List D)
  | [] => some []
  | .val d :: r => (valsOf r).map (d :: ·)
  | .lend _ _ :: _ => none
theorem valsOf_rep {K : PySem.W.Frag} {Z H : Hp} : ∀ {as : List Arg} {ds : List D} {vs : List V}, valsOf as = some ds → AReps K Z H as vs → Reps K Z H ds vs ∧ aowns as = owns ds
  | [], ds, vs, h, r => by cases h; exact ⟨r, rfl⟩
  | .val d :: as, ds, vs, h, r => by
    obtain ⟨v, vr, e, r1, r2⟩ := r
    unfold valsOf at h
    cases h1 : valsOf as with
    | none => rw [h1] at h; cases h
    | some dr =>
      rw [h1] at h
      cases h
      obtain ⟨q1, q2⟩ := valsOf_rep h1 r2
      exact ⟨⟨v, vr, e, r1, q1⟩, by show own d ++ aowns as = own d ++ owns dr; rw [q2]⟩
  | .lend p a :: as, ds, vs, h, r => by cases h
def eTup (ws : Aw) : Ew := fun ρ Q Qx => ws ρ (fun as ρ1 => match valsOf as with
  | some ds => owns ds = [] ∧ ds.length ≤ sizeLine ∧ Q (.tup ds) ρ1
  | none => False) Qx
theorem de_tup {k} (h : DA X W es ws) : DE X W (.Tuple es k pos) (eTup ws) := by
  obtain ⟨t, p, r⟩ := h
  refine ⟨_, pe_tup p, fun σ H Z ρ Q Qx s w fx QQ q => ?_⟩
  refine r σ H Z ρ _ Qx s w fx _ fun vs as ρ1 Z1 H1 wx o => ?_
  cases h : valsOf as with
  | none => simp only [h] at wx
  | some ds =>
    simp only [h] at wx
    obtain ⟨hn, hl, wx⟩ := wx
    obtain ⟨rs, ow⟩ := valsOf_rep h o.rep
    refine ⟨by rw [rs.length]; exact hl, fun pp hp => ?_⟩
    have s' := o.st.known (o := .tup vs) hp
    have stp : Step Z H (eo ρ) Z1 H1 (eo ρ1) := o.step.sub fun a ha => List.mem_append_right _ ha
    refine q (.ref pp) (.tup ds) ρ1 _ _ wx ⟨s', ⟨hn, pp, vs, rfl, SqT.of upd_same, rs.sh (upd_sub ?_) hn⟩, nd_of_nil hn s'.nd, ?_⟩
    · cases e : Z1 pp with
      | none => rfl
      | some u => rw [o.st.sub pp u e] at hp; cases hp
    · show Step Z H (eo ρ) _ _ (owns ds ++ eo ρ1)
      rw [hn]
      exact stp.trans (step_known o.st.sub hp)
def eLst (ws : Aw) : Ew := fun ρ Q Qx => ws ρ (fun as ρ1 => match valsOf as with
  | some ds => ds.length ≤ sizeLine ∧ ∀ p, Q (.lst (some p) ds) ρ1
  | none => False) Qx
theorem de_lst (h : DA X W es ws) : DE X W (.List es pos) (eLst ws) := by
  obtain ⟨t, p, r⟩ := h
  refine ⟨_, pe_lst p, fun σ H Z ρ Q Qx s w fx QQ q => ?_⟩
  refine r σ H Z ρ _ Qx s w fx _ fun vs as ρ1 Z1 H1 wx o => ?_
  cases h : valsOf as with
  | none => simp only [h] at wx
  | some ds =>
    simp only [h] at wx
    obtain ⟨hl, wx⟩ := wx
    obtain ⟨rs, ow⟩ := valsOf_rep h o.rep
    refine ⟨by rw [rs.length]; exact hl, fun pp hp => ?_⟩
    have zp : Z1 pp = none := by
      cases e : Z1 pp with
      | none => rfl
      | some u => rw [o.st.sub pp u e] at hp; cases hp
    have on := o.nd
    rw [ow] at on
    have ost := o.step
    rw [ow] at ost
    have nin : pp ∉ owns ds ++ eo ρ1 := fun hc => by
      rcases List.mem_append.mp hc with z | z
      · exact (Reps.ownd ds vs rs pp z).2 hp
      · exact (o.st.ownd pp z).2 hp
    refine q (.ref pp) (.lst (some pp) ds) ρ1 Z1 _ (wx pp) ⟨o.st.grow hp, ⟨rfl, zp, vs, upd_same, rs.grow hp⟩, ?_, ?_⟩
    · show (pp :: (owns ds ++ eo ρ1)).Nodup
      exact List.nodup_cons.mpr ⟨nin, on⟩
    · show Step Z H (eo ρ) Z1 _ (pp :: (owns ds ++ eo ρ1))
      exact ost.trans (step_new hp)
end
end DL
set_option Elab.async false
set_option linter.all false
set_option maxRecDepth 100000
namespace DL
open PySem PySem.Spec PyProof.Rows L2

/-! ### tests -/
section
variable {X : Cx} {W : WX} {a b c e : Expr} {es rest : List Expr} {pos : Pos} {wp wq : Pw} {wa wb : Ew} {wt wu : Tw} {op : Operator}
def tOpD (rd : RD) (wa wb : Ew) : Tw := fun ρ Q Qx => wa ρ (fun x ρ1 => own x = [] ∧ wb ρ1 (fun y ρ2 => rd x y fun z => match z with
  | .bl k => Q k ρ2
  | _ => False) Qx) Qx
theorem dt_cmp {c : CmpOp} {rd : RD} (ho : DOp X (compareOp c) rd) (ha : DE X W a wa) (hb : DE X W b wb) (hm : behindInMarks c b = false) : DT X W (.Compare a [c] [b] pos) (tOpD rd wa wb) := by
  obtain ⟨r, hr, hd⟩ := ho
  obtain ⟨ta, pa, ra⟩ := ha
  obtain ⟨tb, pb, rb⟩ := hb
  refine ⟨_, pt_cmpR hr pa pb hm, fun σ H Z ρ Q Qx s w fx QQ q => ?_⟩
  refine ra σ H Z ρ _ Qx s w fx _ fun u x ρ1 Z1 H1 wx o1 => ?_
  have s1 : Step Z H (eo ρ) Z1 H1 (eo ρ1) := o1.b.step
  refine rb σ H1 Z1 ρ1 _ Qx o1.st wx.2 (fx.pre s1) _ fun v y ρ2 Z2 H2 wy o2 => ?_
  have rx : Rep X.K Z2 H2 x u := Rep.sh o2.step.zz wx.1 o1.rep
  refine hd Z2 H2 x y u v _ o2.st.sub rx o2.rep wy _ fun z d hq hr hn => ?_
  cases d with
  | bl k => exact ⟨k, hr, q k ρ2 Z2 H2 hq ⟨o2.st, s1.trans o2.b.step⟩⟩
  | _ => exact hq.elim
/-- the pure form -/
def tPure (rd : RD) (wp wq : Pw) : Tw := fun ρ Q _ => wp ρ fun x => wq ρ fun y => rd x y fun z => match z with
  | .bl k => Q k ρ
  | _ => False
theorem dt_cmpP {c : CmpOp} {rd : RD} (ho : DOp X (compareOp c) rd) (ha : DP X a wp) (hb : DP X b wq) (hm : behindInMarks c b = false) : DT X W (.Compare a [c] [b] pos) (tPure rd wp wq) := by
  obtain ⟨r, hr, hd⟩ := ho
  obtain ⟨ta, pa, ra⟩ := ha
  obtain ⟨tb, pb, rb⟩ := hb
  refine ⟨_, pt_cmpR hr pa pb hm, fun σ H Z ρ Q Qx s w fx QQ q => ?_⟩
  refine ra σ H Z ρ _ s w _ fun u x wx rx => ?_
  refine rb σ H Z ρ _ s wx _ fun v y wy ry => ?_
  refine hd Z H x y u v _ s.sub rx ry wy _ fun z d hq hr _ => ?_
  cases d with
  | bl k => exact ⟨k, hr, q k ρ Z H hq (OutB.same s)⟩
  | _ => exact hq.elim
/-- a value's truth -/
def truD : D → Option Bool
  | .non => some false
  | .bl b => some b
  | .int i => some (i != 0)
  | .tup l => some (!l.isEmpty)
  | .lst _ l => some (!l.isEmpty)
  | .lsk l => some (!l.isEmpty)
  | .dct _ _ l => some (!l.isEmpty)
  | _ => none
theorem isEmpty_len {α β : Type} {l : List α} {r : List β} (h : r.length = l.length) : (!r.isEmpty) = !l.isEmpty := by
  cases l with
  | nil => cases r with
    | nil => rfl
    | cons y r => cases h
  | cons x l => cases r with
    | nil => cases h
    | cons y r => rfl
theorem truD_rep {K : PySem.W.Frag} {Z H : Hp} {d : D} {b : Bool} {v : V} (s : Sub Z H) (h : truD d = some b) (r : Rep K Z H d v) : TruV K v H b := by
  cases d with
  | non => cases h; rw [show v = .non from r]; exact rfl
  | bl k => cases h; rw [show v = .bl _ from r]; exact rfl
  | int c => cases h; rw [show v = .int c from r]; exact rfl
  | tup l =>
    cases h
    obtain ⟨_, a, vs, e, hs, hr⟩ := r
    rw [e]
    exact .inr (.inl ⟨vs, sub_t s hs, (isEmpty_len hr.length).symm⟩)
  | lsk l =>
    cases h
    obtain ⟨_, a, vs, e, hs, hr⟩ := r
    rw [e]
    exact .inl ⟨vs, sub_l s hs, (isEmpty_len hr.length).symm⟩
  | lst m l =>
    cases h
    obtain ⟨a, vs, e, hs, hr⟩ := lst_read s r
    rw [e]
    exact .inl ⟨vs, SqL.of hs, (isEmpty_len hr.length).symm⟩
  | dct m ks l =>
    cases h
    cases m with
    | none =>
      obtain ⟨_, a, kvs, e, hs, hk, hr⟩ := r
      rw [e]
      exact .inr (.inr ⟨kvs, s a _ hs, by have := isEmpty_len hr.length; rw [← this]; cases kvs <;> rfl⟩)
    | some a =>
      obtain ⟨e, _, kvs, hs, hk, hr⟩ := r
      rw [e]
      exact .inr (.inr ⟨kvs, hs, by have := isEmpty_len hr.length; rw [← this]; cases kvs <;> rfl⟩)
  | _ => cases h
def tTruP (wp : Pw) : Tw := fun ρ Q _ => wp ρ fun x => match truD x with
  | some k => Q k ρ
  | none => False
theorem dt_truP (ha : DP X a wp) (he : ∀ whole, isTrue a X.env whole = (do let v ← whole; standAt a.pos; holding [v] (truthy v)) := by intro _; rfl) : DT X W a (tTruP wp) := by
  obtain ⟨ta, pa, ra⟩ := ha
  refine ⟨_, pt_truth pa he, fun σ H Z ρ Q Qx s w fx QQ q => ?_⟩
  refine ra σ H Z ρ _ s w _ fun u x wx rx => ?_
  cases h : truD x with
  | none => simp only [h] at wx
  | some k =>
    simp only [h] at wx
    exact ⟨k, truD_rep s.sub h rx, q k ρ Z H wx (OutB.same s)⟩
def tTru (wa : Ew) : Tw := fun ρ Q Qx => wa ρ (fun x ρ1 => match truD x with
  | some k => Q k ρ1
  | none => False) Qx
theorem dt_tru (ha : DE X W a wa) (he : ∀ whole, isTrue a X.env whole = (do let v ← whole; standAt a.pos; holding [v] (truthy v)) := by intro _; rfl) : DT X W a (tTru wa) := by
  obtain ⟨ta, pa, ra⟩ := ha
  refine ⟨_, pt_truth pa he, fun σ H Z ρ Q Qx s w fx QQ q => ?_⟩
  refine ra σ H Z ρ _ Qx s w fx _ fun u x ρ1 Z1 H1 wx o => ?_
  cases h : truD x with
  | none => simp only [h] at wx
  | some k =>
    simp only [h] at wx
    exact ⟨k, truD_rep o.st.sub h o.rep, q k ρ1 Z1 H1 wx o.b⟩
def tNotD (wt : Tw) : Tw := fun ρ Q Qx => wt ρ (fun b ρ1 => Q (!b) ρ1) Qx
theorem dt_not (ha : DT X W a wt) : DT X W (.UnaryOp .Not a pos) (tNotD wt) := by
  obtain ⟨ta, pa, ra⟩ := ha
  refine ⟨_, pt_not pa, fun σ H Z ρ Q Qx s w fx QQ q => ?_⟩
  exact ra σ H Z ρ _ Qx s w fx _ fun b ρ1 Z1 H1 wx o => q (!b) ρ1 Z1 H1 wx o
def tAndD (wt wu : Tw) : Tw := fun ρ Q Qx => wt ρ (fun b ρ1 => if b = true then wu ρ1 Q Qx else Q false ρ1) Qx
def tOrD (wt wu : Tw) : Tw := fun ρ Q Qx => wt ρ (fun b ρ1 => if b = true then Q true ρ1 else wu ρ1 Q Qx) Qx
theorem dw_and1 (ha : DT X W a wt) : DWt X W (.BoolOp .And [a] pos) wt := by
  obtain ⟨ta, pa, ra⟩ := ha
  exact ⟨_, pw_and1 pa, ra⟩
theorem dw_or1 (ha : DT X W a wt) : DWt X W (.BoolOp .Or [a] pos) wt := by
  obtain ⟨ta, pa, ra⟩ := ha
  exact ⟨_, pw_or1 pa, ra⟩
theorem dw_and (ha : DT X W a wt) (hb : DWt X W (.BoolOp .And (b :: rest) pos) wu) : DWt X W (.BoolOp .And (a :: b :: rest) pos) (tAndD wt wu) := by
  obtain ⟨ta, pa, ra⟩ := ha
  obtain ⟨tb, pb, rb⟩ := hb
  refine ⟨_, pw_and pa pb, fun σ H Z ρ Q Qx s w fx QQ q => ?_⟩
  refine ra σ H Z ρ _ Qx s w fx _ fun b ρ1 Z1 H1 wx o => ?_
  cases b with
  | true => exact rb σ H1 Z1 ρ1 Q Qx o.st wx (fx.pre o.step) QQ fun b ρ2 Z2 H2 wy o2 => q b ρ2 Z2 H2 wy (o2.pre o.step)
  | false => exact q false ρ1 Z1 H1 wx o
theorem dw_or (ha : DT X W a wt) (hb : DWt X W (.BoolOp .Or (b :: rest) pos) wu) : DWt X W (.BoolOp .Or (a :: b :: rest) pos) (tOrD wt wu) := by
  obtain ⟨ta, pa, ra⟩ := ha
  obtain ⟨tb, pb, rb⟩ := hb
  refine ⟨_, pw_or pa pb, fun σ H Z ρ Q Qx s w fx QQ q => ?_⟩
  refine ra σ H Z ρ _ Qx s w fx _ fun b ρ1 Z1 H1 wx o => ?_
  cases b with
  | false => exact rb σ H1 Z1 ρ1 Q Qx o.st wx (fx.pre o.step) QQ fun b ρ2 Z2 H2 wy o2 => q b ρ2 Z2 H2 wy (o2.pre o.step)
  | true => exact q true ρ1 Z1 H1 wx o
theorem dt_w (h : DWt X W e wt) : DT X W e wt := by
  obtain ⟨t, p, r⟩ := h
  exact ⟨t, p.pt, r⟩
/-- and, or, not as values -/
def eAnd (wa wb : Ew) : Ew := fun ρ Q Qx => wa ρ (fun x ρ1 => match x with
  | .bl k => if k = true then wb ρ1 Q Qx else Q (.bl false) ρ1
  | _ => False) Qx
def eOr (wa wb : Ew) : Ew := fun ρ Q Qx => wa ρ (fun x ρ1 => match x with
  | .bl k => if k = true then Q (.bl true) ρ1 else wb ρ1 Q Qx
  | _ => False) Qx
theorem de_one {o} (h : DE X W a wa) : DE X W (.BoolOp o [a] pos) wa := by
  obtain ⟨t, p, r⟩ := h
  exact ⟨_, pe_one p, r⟩
theorem de_and (ha : DE X W a wa) (hb : DE X W (.BoolOp .And (b :: rest) pos) wb) : DE X W (.BoolOp .And (a :: b :: rest) pos) (eAnd wa wb) := by
  obtain ⟨ta, pa, ra⟩ := ha
  obtain ⟨tb, pb, rb⟩ := hb
  refine ⟨_, pe_and pa pb, fun σ H Z ρ Q Qx s w fx QQ q => ?_⟩
  refine ra σ H Z ρ _ Qx s w fx _ fun u x ρ1 Z1 H1 wx o => ?_
  cases x with
  | bl k =>
    refine ⟨k, o.rep, ?_⟩
    cases k with
    | true => exact rb σ H1 Z1 ρ1 Q Qx o.st wx (fx.pre o.step) QQ fun v d ρ2 Z2 H2 wy o2 => q v d ρ2 Z2 H2 wy (o2.pre o.step)
    | false => exact q _ _ ρ1 Z1 H1 wx ⟨o.st, rfl, o.nd, o.step⟩
  | _ => exact wx.elim
theorem de_or (ha : DE X W a wa) (hb : DE X W (.BoolOp .Or (b :: rest) pos) wb) : DE X W (.BoolOp .Or (a :: b :: rest) pos) (eOr wa wb) := by
  obtain ⟨ta, pa, ra⟩ := ha
  obtain ⟨tb, pb, rb⟩ := hb
  refine ⟨_, pe_or pa pb, fun σ H Z ρ Q Qx s w fx QQ q => ?_⟩
  refine ra σ H Z ρ _ Qx s w fx _ fun u x ρ1 Z1 H1 wx o => ?_
  cases x with
  | bl k =>
    refine ⟨k, o.rep, ?_⟩
    cases k with
    | false => exact rb σ H1 Z1 ρ1 Q Qx o.st wx (fx.pre o.step) QQ fun v d ρ2 Z2 H2 wy o2 => q v d ρ2 Z2 H2 wy (o2.pre o.step)
    | true => exact q _ _ ρ1 Z1 H1 wx ⟨o.st, rfl, o.nd, o.step⟩
  | _ => exact wx.elim
def eNot (wa : Ew) : Ew := fun ρ Q Qx => wa ρ (fun x ρ1 => match x with
  | .bl k => Q (.bl (!k)) ρ1
  | _ => False) Qx
theorem de_not (ha : DE X W a wa) : DE X W (.UnaryOp .Not a pos) (eNot wa) := by
  obtain ⟨ta, pa, ra⟩ := ha
  refine ⟨_, pe_not pa, fun σ H Z ρ Q Qx s w fx QQ q => ?_⟩
  refine ra σ H Z ρ _ Qx s w fx _ fun u x ρ1 Z1 H1 wx o => ?_
  cases x with
  | bl k => exact ⟨k, o.rep, q _ _ ρ1 Z1 H1 wx ⟨o.st, rfl, o.nd, o.step⟩⟩
  | _ => exact wx.elim
/-- a if t else b -/
def eIf (wt : Tw) (wa wb : Ew) : Ew := fun ρ Q Qx => wt ρ (fun k ρ1 => if k = true then wa ρ1 Q Qx else wb ρ1 Q Qx) Qx
theorem de_if (hc : DT X W c wt) (ha : DE X W a wa) (hb : DE X W b wb) : DE X W (.IfExp c a b pos) (eIf wt wa wb) := by
  obtain ⟨tc, pc, rc⟩ := hc
  obtain ⟨ta, pa, ra⟩ := ha
  obtain ⟨tb, pb, rb⟩ := hb
  refine ⟨_, pe_ifExp pc pa pb, fun σ H Z ρ Q Qx s w fx QQ q => ?_⟩
  refine rc σ H Z ρ _ Qx s w fx _ fun k ρ1 Z1 H1 wx o => ?_
  cases k with
  | true => exact ra σ H1 Z1 ρ1 Q Qx o.st wx (fx.pre o.step) QQ fun v d ρ2 Z2 H2 wy o2 => q v d ρ2 Z2 H2 wy (o2.pre o.step)
  | false => exact rb σ H1 Z1 ρ1 Q Qx o.st wx (fx.pre o.step) QQ fun v d ρ2 Z2 H2 wy o2 => q v d ρ2 Z2 H2 wy (o2.pre o.step)
end

/-! ### what a def promises, by data -/
abbrev DSp := List D → (D → List D → Prop) → (XD → List D → Prop) → Prop
structure OutF (K : PySem.W.Frag) (Z H : Hp) (F : List Addr) (vs : List V) (Z' H' : Hp) (ds' : List D) : Prop where
  sub : Sub Z' H'
  reps : Reps K Z' H' ds' vs
  step : Step Z H F Z' H' (owns ds')
def lift (K : PySem.W.Frag) (dsp : DSp) : Sp := fun vs H Q E => ∃ (Z : Hp) (ds : List D) (Qd : D → List D → Prop) (Qx : XD → List D → Prop), Sub Z H ∧ Reps K Z H ds vs ∧ (owns ds).Nodup ∧ dsp ds Qd Qx ∧
  (∀ v d ds' Z' H', Qd d ds' → Sub Z' H' → Reps K Z' H' ds' vs → Rep K Z' H' d v → (own d ++ owns ds').Nodup → Step Z H (owns ds) Z' H' (own d ++ owns ds') → Q v H') ∧
  (∀ x cls dd ds' Z' H', Qx x ds' → Sub Z' H' → Reps K Z' H' ds' vs → XRep K Z' H' x cls dd → (owns ds').Nodup → Step Z H (owns ds) Z' H' (owns ds') → E cls dd H')
/-- the arguments as they stand at the call -/
def resA : List Arg → Env → (List D → Env → Prop) → Prop
  | [], ρ, R => R [] ρ
  | .val d :: r, ρ, R => resA r ρ fun ds ρ' => R (d :: ds) ρ'
  | .lend p a :: r, ρ, R => match getP ρ p with
    | some d => addr d = some a ∧ resA r (setP ρ p (lent a)) fun ds ρ' => R (d :: ds) ρ'
    | none => False
/-- .. and what is given back -/
def giveA : List Arg → List D → Env → (Env → Prop) → Prop
  | [], _, ρ, R => R ρ
  | .val _ :: r, _ :: ds, ρ, R => giveA r ds ρ R
  | .lend p a :: r, d :: ds, ρ, R => getP ρ p = some (lent a) ∧ giveA r ds (setP ρ p d) R
  | _, [], _, _ => False
section
variable {K : PySem.W.Frag} {n : Nat} {Z H Z' H' : Hp} {σ : L2.St}
theorem resA_ok : ∀ {as : List Arg} {ρ : Env} {R : List D → Env → Prop} {vs : List V}, resA as ρ R → St K n Z H σ ρ → AReps K Z H as vs → (aowns as ++ eo ρ).Nodup →
    ∃ ds ρ', R ds ρ' ∧ St K n Z H σ ρ' ∧ Reps K Z H ds vs ∧ (owns ds ++ eo ρ').Nodup ∧ (aowns as ++ eo ρ).Perm (owns ds ++ eo ρ')
  | [], ρ, R, vs, h, s, r, nd => ⟨[], ρ, h, s, r, nd, .refl _⟩
  | .val d :: as, ρ, R, vs, h, s, r, nd => by
    obtain ⟨v, vr, e, r1, r2⟩ := r
    have nd' : (own d ++ (aowns as ++ eo ρ)).Nodup := by rw [← List.append_assoc]; exact nd
    obtain ⟨ds, ρ', hR, s', rs, nds, pm⟩ := resA_ok (as := as) h s r2 (List.nodup_append.mp nd').2.1
    have pm' : (aowns (.val d :: as) ++ eo ρ).Perm (owns (d :: ds) ++ eo ρ') := by
      show (own d ++ aowns as ++ eo ρ).Perm (own d ++ owns ds ++ eo ρ')
      rw [List.append_assoc, List.append_assoc]
      exact pm.append_left _
    exact ⟨d :: ds, ρ', hR, s', ⟨v, vr, e, r1, rs⟩, pm'.nodup_iff.mp nd, pm'⟩
  | .lend p a :: as, ρ, R, vs, h, s, r, nd => by
    obtain ⟨v, vr, e, r1, r2⟩ := r
    unfold resA at h
    cases hg : getP ρ p with
    | none => rw [hg] at h; exact h.elim
    | some d =>
      rw [hg] at h
      obtain ⟨ha, h⟩ := h
      obtain ⟨rd, s1, pm1, g1, g2⟩ := s.take hg ha
      have nd0 : (aowns as ++ eo ρ).Nodup := nd
      have pm2 : (aowns as ++ eo ρ).Perm (own d ++ (aowns as ++ eo (setP ρ p (lent a)))) := by
        refine (pm1.append_left _).trans ?_
        rw [← List.append_assoc, ← List.append_assoc]
        exact List.perm_append_comm.append_right _
      have nd2 := pm2.nodup_iff.mp nd0
      obtain ⟨ds, ρ', hR, s', rs, nds, pm⟩ := resA_ok (as := as) h s1 r2 (List.nodup_append.mp nd2).2.1
      have pm3 : (aowns (.lend p a :: as) ++ eo ρ).Perm (owns (d :: ds) ++ eo ρ') := by
        show (aowns as ++ eo ρ).Perm (own d ++ owns ds ++ eo ρ')
        rw [List.append_assoc]
        exact pm2.trans (pm.append_left _)
      refine ⟨d :: ds, ρ', hR, s', ⟨v, vr, e, by rw [show v = .ref a from r1]; exact rd, rs⟩, pm3.nodup_iff.mp nd, pm3⟩
theorem giveA_ok : ∀ {as : List Arg} {ds : List D} {ρ : Env} {R : Env → Prop} {vs : List V}, giveA as ds ρ R → St K n Z' H' σ ρ → AReps K Z H as vs → Reps K Z' H' ds vs → (owns ds ++ eo ρ).Nodup →
    ∃ ρ', R ρ' ∧ St K n Z' H' σ ρ' ∧ (∀ a ∈ eo ρ', a ∈ owns ds ++ eo ρ)
  | [], ds, ρ, R, vs, h, s, r, q, nd => ⟨ρ, h, s, fun a ha => List.mem_append_right _ ha⟩
  | .val x :: as, [], ρ, R, vs, h, s, r, q, nd => h.elim
  | .lend p a :: as, [], ρ, R, vs, h, s, r, q, nd => h.elim
  | .val x :: as, d :: ds, ρ, R, vs, h, s, r, q, nd => by
    obtain ⟨v, vr, e, r1, r2⟩ := r
    obtain ⟨v', vr', e', q1, q2⟩ := q
    rw [e] at e'
    obtain ⟨rfl, rfl⟩ := List.cons.inj e'
    have nd' : (own d ++ (owns ds ++ eo ρ)).Nodup := by rw [← List.append_assoc]; exact nd
    obtain ⟨ρ', hR, s', hs⟩ := giveA_ok (as := as) h s r2 q2 (List.nodup_append.mp nd').2.1
    exact ⟨ρ', hR, s', fun a ha => by
      have := hs a ha
      show a ∈ own d ++ owns ds ++ eo ρ
      rw [List.append_assoc]; exact List.mem_append_right _ this⟩
  | .lend p a :: as, d :: ds, ρ, R, vs, h, s, r, q, nd => by
    obtain ⟨v, vr, e, r1, r2⟩ := r
    obtain ⟨v', vr', e', q1, q2⟩ := q
    rw [e] at e'
    obtain ⟨rfl, rfl⟩ := List.cons.inj e'
    obtain ⟨hg, h⟩ := h
    have nd' : (own d ++ (owns ds ++ eo ρ)).Nodup := by rw [← List.append_assoc]; exact nd
    have nn := List.nodup_append.mp nd'
    have nd2 : (own d ++ eo ρ).Nodup := nd'.sublist (List.Sublist.append_left (List.sublist_append_right _ _) _)
    obtain ⟨s1, pm⟩ := s.put hg (by rw [show v = .ref a from r1] at q1; exact q1) nd2
    have nd3 : (owns ds ++ eo (setP ρ p d)).Nodup := by
      have : (owns ds ++ eo (setP ρ p d)).Perm (own d ++ (owns ds ++ eo ρ)) := by
        refine (pm.append_left _).trans ?_
        rw [← List.append_assoc, ← List.append_assoc]
        exact List.perm_append_comm.append_right _
      exact this.nodup_iff.mpr nd'
    obtain ⟨ρ', hR, s', hs⟩ := giveA_ok (as := as) h s1 r2 q2 nd3
    refine ⟨ρ', hR, s', fun b hb => ?_⟩
    show b ∈ own d ++ owns ds ++ eo ρ
    rw [List.append_assoc]
    rcases List.mem_append.mp (hs b hb) with z | z
    · exact List.mem_append_right _ (List.mem_append_left _ z)
    · rcases List.mem_append.mp (pm.mem_iff.mp z) with y | y
      · exact List.mem_append_left _ y
      · exact List.mem_append_right _ (List.mem_append_right _ y)
end
theorem XRep.sh {K : PySem.W.Frag} {Z H Z' H' : Hp} {x : XD} {cls : Value} {dd : Option Addr} (hz : Sub Z Z') (r : XRep K Z H x cls dd) : XRep K Z' H' x cls dd := by
  obtain ⟨h1, h2, h3⟩ := r
  refine ⟨h1, h2, ?_⟩
  cases dd with
  | none => exact h3
  | some a =>
    obtain ⟨kvs, e1, e2, e3⟩ := h3
    exact ⟨kvs, hz a _ e1, e2, e3.sh hz h2⟩

section
variable {X : Cx} {W : WX} {a b c e : Expr} {es : List Expr} {pos : Pos} {ws : Aw} {dsp : DSp}
def wCall (dsp : DSp) (ws : Aw) : Ew := fun ρ Q Qx => ws ρ (fun as ρ1 => resA as ρ1 fun ds ρ2 => dsp ds (fun d ds' => giveA as ds' ρ2 fun ρ3 => Q d ρ3) (fun x ds' => giveA as ds' ρ2 fun ρ3 => Qx x ρ3)) Qx
/-- the state behind a call, by the callee's promise -/
theorem call_fit {σ : L2.St} {H Z H1 Z1 : Hp} {ρ1 ρ2 : Env} {vs : List V} {as : List Arg} {ds : List D} {F : List Addr} {Q : D → Env → Prop} {Qx : QX} {n : Nat}
    (o : OutA X.K n Z H F σ Z1 H1 vs as ρ1) (s2 : St X.K n Z1 H1 σ ρ2) (rs : Reps X.K Z1 H1 ds vs) (nd : (owns ds ++ eo ρ2).Nodup) (pm : (aowns as ++ eo ρ1).Perm (owns ds ++ eo ρ2))
    (h : dsp ds (fun d ds' => giveA as ds' ρ2 fun ρ3 => Q d ρ3) (fun x ds' => giveA as ds' ρ2 fun ρ3 => Qx x ρ3)) (fx : FitX X.K n W Z H F σ Qx) {QQ : VK} (q : ∀ v d ρ' Z' H', Q d ρ' → Out X.K n Z H F σ Z' H' v d ρ' → QQ v H') :
    lift X.K dsp vs H1 QQ (L2.WE W σ) := by
  have nn := List.nodup_append.mp nd
  have keep : ∀ {Z' H' : Hp} {G : List Addr}, Step Z1 H1 (owns ds) Z' H' G → Sub Z' H' → St X.K n Z' H' σ ρ2 ∧ (∀ a ∈ eo ρ2, a ∉ G) := fun {Z' H' G} st sb => by
    have ow := s2.ownd
    have dis : ∀ a ∈ eo ρ2, a ∉ owns ds := fun a ha hc => nn.2.2 a hc a ha rfl
    refine ⟨s2.mono sb st.zz (fun a ha o e => st.keep a o e (dis a ha)) fun a ha => ?_, fun a ha hc => ?_⟩
    · cases e : Z' a with
      | none => rfl
      | some u =>
        rcases st.zfr a (ow a ha).1 (by rw [e]; exact fun z => nomatch z) with z | z
        · exact absurd z (dis a ha)
        · exact absurd z (ow a ha).2
    · rcases st.fre a hc with z | z
      · exact dis a ha z
      · exact (ow a ha).2 z
  have stepTo : ∀ {Z' H' : Hp} {G G' : List Addr}, Step Z1 H1 (owns ds) Z' H' G → (∀ a ∈ G', a ∈ G ∨ a ∈ eo ρ2) → Step Z H F Z' H' G' := fun {Z' H' G G'} st hG => by
    refine o.step.trans ⟨st.zz, fun a u e nin => st.keep a u e fun hc => nin (pm.mem_iff.mpr (List.mem_append_left _ hc)), fun a ha => ?_, fun a z1 z2 => ?_⟩
    · rcases hG a ha with z | z
      · rcases st.fre a z with y | y
        · exact .inl (pm.mem_iff.mpr (List.mem_append_left _ y))
        · exact .inr y
      · exact .inl (pm.mem_iff.mpr (List.mem_append_right _ z))
    · rcases st.zfr a z1 z2 with y | y
      · exact .inl (pm.mem_iff.mpr (List.mem_append_left _ y))
      · exact .inr y
  refine ⟨Z1, ds, _, _, s2.sub, rs, nn.1, h, fun v d ds' Z' H' hq sb rs' rd ndd st => ?_, fun x cls dd ds' Z' H' hq sb rs' rx ndd st => ?_⟩
  · obtain ⟨sk, dis⟩ := keep st sb
    have ndd' := List.nodup_append.mp ndd
    have nda : (owns ds' ++ eo ρ2).Nodup := List.nodup_append.mpr ⟨ndd'.2.1, s2.nd, fun a ha b hb e => dis b hb (e ▸ List.mem_append_right _ ha)⟩
    obtain ⟨ρ', hR, s', hs⟩ := giveA_ok hq sk o.rep rs' nda
    refine q v d ρ' Z' H' hR ⟨s', rd, ?_, stepTo st fun a ha => ?_⟩
    · refine List.nodup_append.mpr ⟨ndd'.1, s'.nd, fun a ha b hb e => ?_⟩
      subst e
      rcases List.mem_append.mp (hs a hb) with z | z
      · exact ndd'.2.2 a ha a z rfl
      · exact dis a z (List.mem_append_left _ ha)
    · rcases List.mem_append.mp ha with z | z
      · exact .inl (List.mem_append_left _ z)
      · rcases List.mem_append.mp (hs a z) with y | y
        · exact .inl (List.mem_append_right _ y)
        · exact .inr y
  · obtain ⟨sk, dis⟩ := keep st sb
    have nda : (owns ds' ++ eo ρ2).Nodup := List.nodup_append.mpr ⟨ndd, s2.nd, fun a ha b hb e => dis b hb (e ▸ ha)⟩
    obtain ⟨ρ', hR, s', hs⟩ := giveA_ok hq sk o.rep rs' nda
    exact fx x cls dd ρ' Z' H' hR ⟨s', rx, stepTo st fun a ha => List.mem_append.mp (hs a ha)⟩
/-- f(e, ..) -/
theorem de_call {k : Nat} {f : Addr} {fd : FuncData} {ps : List Str} {x : Str} {p : Pos} (F : FnOk X.prog X.w X.K X.mg X.base (L2.CX X.prog X.w) k f fd ps (lift X.K dsp)) (hr : Room k X.A) (hg : Gl X x) (hm : X.mg x = some (.ref f)) (hk : PySem.W.keepIn X.K (.ref f) = true) (hb : Binds X.K fd ps [])
    (tk : Takes X W) (ha : DA X W (e :: es) ws) (hdb : (x == ("__debug__" : Str)) = false := by decide) (he : starEach (e :: es) X.env = (false, eval e X.env) :: starEach es X.env := by rfl) (hpl : (backTo pos (starEach es X.env)).any (·.1) = false := by rfl) :
    DE X W (.Call (.Name x p) (e :: es) [] pos) (wCall dsp ws) := by
  obtain ⟨t, pa, ra⟩ := ha
  refine ⟨_, pe_callSD (E := L2.WE W) F hr hg hm hk hb .nil (fun σ => passAt tk σ) pa hdb he hpl, fun σ H Z ρ Q Qx s w fx QQ q => ?_⟩
  refine ra σ H Z ρ _ Qx s w fx _ fun vs as ρ1 Z1 H1 wx o => ?_
  obtain ⟨ds, ρ2, h, s2, rs, nd, pm⟩ := resA_ok wx o.st o.rep o.nd
  rw [List.append_nil]
  exact call_fit o s2 rs nd pm h fx q
end

/-! ### paths to what is owned -/
section
variable {X : Cx} {a b : Expr} {pos : Pos} {wl : Lw} {wp : Pw}
def lVar (i : Nat) : Lw := fun ρ Q => match ρ[i]? with
  | some (some d) => Q (i, []) d
  | _ => False
theorem dl_var (i : Nat) {x : Str} {pos : Pos} (hN : X.N[i]? = some x := by rfl) (hv : Vis X.env.scope x := by first | exact Or.inl rfl | exact Or.inr (Or.inl rfl) | exact Or.inr (Or.inr rfl)) (hd : (x == ("__debug__" : Str)) = false := by decide) (hcd : (x == ("__classdict__" : Str)) = false := by decide) : DPath X (.Name x pos) (lVar i) := by
  refine ⟨_, pe_var hN hv hd hcd, fun σ H Z ρ Q s w QQ q => ?_⟩
  unfold lVar at w
  cases h : ρ[i]? with
  | none => rw [h] at w; exact w.elim
  | some o => cases o with
    | none => rw [h] at w; exact w.elim
    | some d =>
      rw [h] at w
      obtain ⟨v, h1, r⟩ := s.rep i d h
      exact ⟨v, h1, q v (i, []) d w (by unfold getP; rw [h]; rfl) r⟩
theorem dp_path (h : DPath X a wl) : DP X a (fun ρ Q => wl ρ fun _ d => Q d) := by
  obtain ⟨t, p, r⟩ := h
  exact ⟨t, p, fun σ H Z ρ Q s w QQ q => r σ H Z ρ _ s w QQ fun v p d hq _ hr => q v d hq hr⟩
theorem getD_snoc {x : Ix} {c e : D} {k : Nat} (hk : cpos c x = some k) (he : (kids c)[k]? = some e) : ∀ (q : List Ix) {d : D}, getD d q = some c → getD d (q ++ [x]) = some e
  | [], d, h => by
    have : d = c := by simpa [getD] using h
    subst this
    rw [List.nil_append, getD_cons hk he]; rfl
  | y :: q, d, h => by
    rw [List.cons_append]
    unfold getD at h ⊢
    cases h1 : cpos d y with
    | none => rw [h1] at h; cases h
    | some j =>
      rw [h1] at h
      cases h2 : (kids d)[j]? with
      | none => simp only [h2] at h; cases h
      | some u =>
        simp only [h2] at h ⊢
        exact getD_snoc hk he q h
theorem getP_snoc {ρ : Env} {p : Path} {x : Ix} {c e : D} {k : Nat} (h : getP ρ p = some c) (hk : cpos c x = some k) (he : (kids c)[k]? = some e) : getP ρ (p.1, p.2 ++ [x]) = some e := by
  obtain ⟨d, h1, h2⟩ := getP_some h
  unfold getP
  rw [h1]
  exact getD_snoc hk he p.2 h2
/-- o[i] of an owned list -/
def lIx (wl : Lw) (wp : Pw) : Lw := fun ρ Q => wl ρ fun p d => wp ρ fun j => match d, j with
  | .lst (some _) l, .int i => (match ixN l.length i with
    | some k => (match l[k]? with
      | some e => Q (p.1, p.2 ++ [.at k]) e
      | none => False)
    | none => False)
  | _, _ => False
theorem dl_ix (ha : DPath X a wl) (hb : DP X b wp) (hs : PlainIx b) : DPath X (.Subscript a b pos) (lIx wl wp) := by
  obtain ⟨ta, pa, ra⟩ := ha
  obtain ⟨tb, pb, rb⟩ := hb
  refine ⟨_, pe_ix ix_seq pa pb hs, fun σ H Z ρ Q s w QQ q => ?_⟩
  refine ra σ H Z ρ _ s w _ fun u p d wx hg rx => ?_
  refine rb σ H Z ρ _ s wx _ fun v j wy rj => ?_
  cases d with
  | lst m l => cases m with
    | none => exact wy.elim
    | some ad => cases j with
      | int i =>
        cases hk : ixN l.length i with
        | none => simp only [hk] at wy
        | some k =>
          simp only [hk] at wy
          cases he : l[k]? with
          | none => simp only [he] at wy
          | some e =>
            simp only [he] at wy
            obtain ⟨eu, _, vs, hs', hr⟩ := rx
            have hat : atI l i = some e := by unfold atI; rw [hk]; exact he
            obtain ⟨c, h1, h2⟩ := hr.atI hat
            have hc : cpos (.lst (some ad) l) (.at k) = some k := if_pos (lt_of_get he)
            rw [show v = .int i from rj]
            exact .inl ⟨ad, vs, i, c, eu, rfl, SqL.of hs', h1, q c _ e wy (getP_snoc hg hc he) h2⟩
      | _ => exact wy.elim
  | _ => cases j <;> exact wy.elim
end

/-! ### targets -/
section
variable {X : Cx} {es : List Expr} {e : Expr} {pos : Pos}
def gNm (i : Nat) : Gw := fun d ρ Q => Q (ρ.set i (some d))
theorem dg_name {i : Nat} {x : Str} (hN : X.N.Nodup) (hi : X.N[i]? = some x) (hx : Loc X.env.scope x) (hf : X.fn x = true ∨ X.env.scope.names.lookup x = some .local := by first | exact .inl rfl | exact .inr rfl | assumption) : DG X (.Name x pos) (gNm i) [i] := by
  refine ⟨_, pg_name hN hi hx hf, fun σ H Z ρ d v Q s r nd w QQ q => ?_⟩
  have hl : i < ρ.length := by rw [s.ln]; exact lt_of_get hi
  exact q _ _ w (s.store r nd hl) (fun a ha => eo_store_sub hl ha) (by simp) fun j hj => getq_set_ne fun e => hj (by simp [e])
def gsNil : List D → Env → (Env → Prop) → Prop := fun ds ρ Q => match ds with
  | [] => Q ρ
  | _ => False
def gsCons (g : Gw) (gs : List D → Env → (Env → Prop) → Prop) : List D → Env → (Env → Prop) → Prop := fun ds ρ Q => match ds with
  | d :: r => g d ρ fun ρ1 => gs r ρ1 Q
  | [] => False
theorem dgs_nil : DGs X [] gsNil [] := by
  refine ⟨_, pgs_nil, fun σ H Z ρ ds vs Q s r n w QQ q => ?_⟩
  cases ds with
  | nil => exact ⟨r, q σ ρ w s (fun a h => h) rfl fun _ _ => rfl⟩
  | cons d ds => exact w.elim
theorem dgs_cons {g : Gw} {gs : List D → Env → (Env → Prop) → Prop} {js ks : List Nat} (h1 : DG X e g js) (h2 : DGs X es gs ks) (hs : (assignEach (e :: es) X.env).map (·.2) = (assign e X.env) :: (assignEach es X.env).map (·.2) := by rfl) : DGs X (e :: es) (gsCons g gs) (js ++ ks) := by
  obtain ⟨t1, p1, r1⟩ := h1
  obtain ⟨t2, p2, r2⟩ := h2
  refine ⟨_, pgs_cons p1 p2 hs, fun σ H Z ρ ds vs Q s r n w QQ q => ?_⟩
  cases ds with
  | nil => exact w.elim
  | cons d ds =>
    obtain ⟨v, vr, e, rd, rr⟩ := r
    have nn := List.append_eq_nil_iff.mp n
    refine ⟨v, vr, e, r1 σ H Z ρ d v _ s rd (nd_of_nil nn.1 s.nd) w _ fun σ1 ρ1 w1 s1 h1 l1 k1 => ?_⟩
    refine r2 σ1 H Z ρ1 ds vr Q s1 rr nn.2 w1 _ fun σ2 ρ2 w2 s2 h2 l2 k2 => ?_
    refine q σ2 ρ2 w2 s2 (fun a ha => ?_) (l2.trans l1) fun j hj => ?_
    · have := h1 a (h2 a ha)
      rw [nn.1] at this; exact this
    · rw [k2 j fun hc => hj (List.mem_append_right _ hc), k1 j fun hc => hj (List.mem_append_left _ hc)]
/-- (a, b, ..) = a tuple -/
def gTp (gs : List D → Env → (Env → Prop) → Prop) (k : Nat) : Gw := fun d ρ Q => match d with
  | .tup l => l.length = k ∧ gs l ρ Q
  | _ => False
theorem dg_tup {kk : Nat} {gs : List D → Env → (Env → Prop) → Prop} {js : List Nat} {k : Nat} (hc : X.calm = true) (h : DGs X es gs js) (hn : (assignEach es X.env).length = k := by rfl) (hst : (assignEach es X.env).findIdx? (·.1) = none := by rfl) :
    DG X (.Tuple es kk pos) (gTp gs k) js := by
  obtain ⟨t, p, r⟩ := h
  refine ⟨_, pg_tup hc p hn hst, fun σ H Z ρ d v Q s rd nd w QQ q => ?_⟩
  cases d with
  | tup l =>
    obtain ⟨hl, w⟩ := w
    obtain ⟨n, a, vs, e, hs, hr⟩ := rd
    exact ⟨a, vs, e, sub_t s.sub hs, by rw [hr.length]; exact hl, r σ H Z ρ l vs Q s hr n w QQ fun σ' ρ' w' s' h' l' k' => q σ' ρ' w' s' (fun a ha => List.mem_append_right _ (h' a ha)) l' k'⟩
  | _ => exact w.elim
end
end DL
set_option Elab.async false
set_option linter.all false
set_option maxRecDepth 100000
namespace DL
open PySem PySem.Spec PyProof.Rows L2

/-! ### statements -/
section
variable {X : Cx} {W : WX} {a b c e : Expr} {st : Stmt} {rest body : List Stmt} {pos : Pos} {wp : Pw} {wa : Ew} {wt : Tw} {w1 w2 ws : Sw} {g : Gw} {js : List Nat}
@[irreducible] def sSeq (w1 w2 : Sw) : Sw := fun D ρ => w1 { D with nx := fun ρ' => w2 D ρ' } ρ
theorem sSeq_eq : sSeq w1 w2 = fun D ρ => w1 { D with nx := fun ρ' => w2 D ρ' } ρ := by unfold sSeq; rfl
def sNext : Sw := fun D ρ => D.nx ρ
theorem dss_nil : DSs X W [] sNext := ⟨_, pss_nil, fun σ H Z ρ D DD s w f => f.nx σ ρ Z H w (OutB.same s)⟩
theorem dss_cons (h1 : DS X W st w1) (h2 : DSs X W rest w2) : DSs X W (st :: rest) (sSeq w1 w2) := by
  obtain ⟨t1, p1, r1⟩ := h1
  obtain ⟨t2, p2, r2⟩ := h2
  refine ⟨_, pss_cons p1 p2, fun σ H Z ρ D DD s w f => ?_⟩
  rw [sSeq_eq] at w
  refine r1 σ H Z ρ { D with nx := fun ρ' => w2 D ρ' } { DD with nx := t2 DD } s w ⟨fun σ' ρ' Z' H' q o => ?_, f.bk, f.ct, f.rt, f.xx⟩
  exact r2 σ' H' Z' ρ' D DD o.st q (f.pre o.step)
theorem dss_one (h1 : DS X W st w1) : DSs X W [st] w1 := by
  obtain ⟨t1, p1, r1⟩ := h1
  exact ⟨_, pss_one p1, r1⟩
theorem ds_pass : DS X W (.Pass pos) sNext := ⟨_, ps_pass, fun σ H Z ρ D DD s w f => f.nx σ ρ Z H w (OutB.same s)⟩
def sBrk : Sw := fun D ρ => D.bk ρ
def sCnt : Sw := fun D ρ => D.ct ρ
theorem ds_break : DS X W (.Break pos) sBrk := ⟨_, ps_break, fun σ H Z ρ D DD s w f => f.bk σ ρ Z H w (OutB.same s)⟩
theorem ds_continue : DS X W (.Continue pos) sCnt := ⟨_, ps_continue, fun σ H Z ρ D DD s w f => f.ct σ ρ Z H w (OutB.same s)⟩
def sDrop (wa : Ew) : Sw := fun D ρ => wa ρ (fun _ ρ' => D.nx ρ') D.xx
theorem ds_expr (h : DE X W e wa) (hs : swapsWith e none pos.line X.env = pure false := by rfl) : DS X W (.Expr e pos) (sDrop wa) := by
  obtain ⟨t, p, r⟩ := h
  refine ⟨_, ps_expr p hs, fun σ H Z ρ D DD s w f => ?_⟩
  exact r σ H Z ρ _ _ s w (f.xx σ) _ fun v d ρ' Z' H' q o => f.nx σ ρ' Z' H' q o.b
def sRet (wa : Ew) : Sw := fun D ρ => wa ρ D.rt D.xx
theorem ds_ret (h : DE X W e wa) : DS X W (.Return (some e) pos) (sRet wa) := by
  obtain ⟨t, p, r⟩ := h
  refine ⟨_, ps_ret p, fun σ H Z ρ D DD s w f => ?_⟩
  exact r σ H Z ρ _ _ s w (f.xx σ) _ fun v d ρ' Z' H' q o => f.rt v d σ ρ' Z' H' q o
def sRetN : Sw := fun D ρ => D.rt .non ρ
theorem ds_retN : DS X W (.Return none pos) sRetN := ⟨_, ps_retN, fun σ H Z ρ D DD s w f => f.rt .non .non σ ρ Z H w (Out.same s rfl rfl)⟩
@[irreducible] def sIf (wt : Tw) (w1 w2 : Sw) : Sw := fun D ρ => wt ρ (fun b ρ' => if b = true then w1 D ρ' else w2 D ρ') D.xx
theorem sIf_eq : sIf wt w1 w2 = fun D ρ => wt ρ (fun b ρ' => if b = true then w1 D ρ' else w2 D ρ') D.xx := by unfold sIf; rfl
theorem ds_if {b1 b2 : List Stmt} (hc : DT X W c wt) (h1 : DSs X W b1 w1) (h2 : DSs X W b2 w2) : DS X W (.If c b1 b2 pos) (sIf wt w1 w2) := by
  obtain ⟨tc, pc, rc⟩ := hc
  obtain ⟨t1, p1, r1⟩ := h1
  obtain ⟨t2, p2, r2⟩ := h2
  refine ⟨_, ps_if pc p1 p2, fun σ H Z ρ D DD s w f => ?_⟩
  rw [sIf_eq] at w
  refine rc σ H Z ρ _ _ s w (f.xx σ) _ fun b ρ' Z' H' q o => ?_
  cases b with
  | true => exact r1 σ H' Z' ρ' D DD o.st q (f.pre o.step)
  | false => exact r2 σ H' Z' ρ' D DD o.st q (f.pre o.step)
/-- code that is never reached -/
def sNever : Sw := fun _ _ => False
theorem ds_never : DS X W st sNever := ⟨_, ps_never, fun _ _ _ _ _ _ _ h _ => h.elim⟩
theorem dss_never : DSs X W body sNever := ⟨_, pss_never, fun _ _ _ _ _ _ _ h _ => h.elim⟩
def sSet (i : Nat) (wa : Ew) : Sw := fun D ρ => wa ρ (fun d ρ' => D.nx (ρ'.set i (some d))) D.xx
theorem set_fit {K : PySem.W.Frag} {n : Nat} {Z H Z' H' : Hp} {F : List Addr} {σ : L2.St} {v : V} {d : D} {ρ' : Env} {i : Nat} {D : DEnds} {DD : Ends} (o : Out K n Z H F σ Z' H' v d ρ') (hi : i < n) (f : Fit K n W Z H F D DD) (q : D.nx (ρ'.set i (some d))) : DD.nx (σ.set i (some v)) H' := by
  have hl : i < ρ'.length := by rw [o.st.ln]; exact hi
  exact f.nx _ _ Z' H' q ⟨o.st.store o.rep o.nd hl, o.step.sub fun a ha => eo_store_sub hl ha⟩
theorem ds_set {i : Nat} {x : Str} {pos' : Pos} (hN : X.N.Nodup) (hi : X.N[i]? = some x) (hx : Loc X.env.scope x) (h : DE X W e wa) (hs : swapsWith e (some (.Name x pos')) pos.line X.env = pure false := by rfl) (hf : X.fn x = true ∨ X.env.scope.names.lookup x = some .local := by first | exact .inl rfl | exact .inr rfl | assumption) : DS X W (.Assign [.Name x pos'] e pos) (sSet i wa) := by
  obtain ⟨t, p, r⟩ := h
  refine ⟨_, ps_set hN hi hx p hs hf, fun σ H Z ρ D DD s w f => ?_⟩
  exact r σ H Z ρ _ _ s w (f.xx σ) _ fun v d ρ' Z' H' q o => set_fit o (lt_of_get hi) f q
/-- target = value -/
def sAsg (wa : Ew) (g : Gw) : Sw := fun D ρ => wa ρ (fun d ρ' => g d ρ' D.nx) D.xx
theorem ds_asg {tg : Expr} (h : DE X W e wa) (hg : DG X tg g js) (hs : swapsWithSole [tg] e pos.line X.env = pure false := by rfl) (hw : swappedStores [tg] e X.env = pure none := by rfl) (h1 : (assignEach [tg] X.env).map (·.2) = [assign tg X.env] := by rfl) : DS X W (.Assign [tg] e pos) (sAsg wa g) := by
  obtain ⟨t, p, r⟩ := h
  obtain ⟨tg', pg, rg⟩ := hg
  refine ⟨_, ps_asg p pg hs hw h1, fun σ H Z ρ D DD s w f => ?_⟩
  refine r σ H Z ρ _ _ s w (f.xx σ) _ fun v d ρ' Z' H' q o => ?_
  exact rg σ H' Z' ρ' d v _ o.st o.rep o.nd q _ fun σ2 ρ2 q2 s2 h2 _ _ => f.nx σ2 ρ2 Z' H' q2 ⟨s2, o.step.sub h2⟩
/-- x op= e -/
def sAug (i : Nat) (g : Int → Int → Int) (wa : Ew) : Sw := fun D ρ => match ρ[i]? with
  | some (some (.int x)) => wa ρ (fun d ρ' => match d with
    | .int y => D.nx (ρ'.set i (some (.int (g x y))))
    | _ => False) D.xx
  | _ => False
theorem ds_aug {i : Nat} {x : Str} {op : Operator} {pos' : Pos} {gg : Int → Int → Int} (hN : X.N.Nodup) (hi : X.N[i]? = some x) (hx : Loc X.env.scope x) (h : DE X W e wa) (ho : PIp X op (ipI gg)) (hf : X.fn x = true ∨ X.env.scope.names.lookup x = some .local := by first | exact .inl rfl | exact .inr rfl | assumption) : DS X W (.AugAssign (.Name x pos') op e pos) (sAug i gg wa) := by
  obtain ⟨t, p, r⟩ := h
  refine ⟨_, ps_aug hN hi hx p ho hf, fun σ H Z ρ D DD s w f => ?_⟩
  unfold sAug at w
  split at w
  · rename_i x' hx'
    obtain ⟨v, h1, rv⟩ := s.rep i _ hx'
    refine ⟨v, h1, ?_⟩
    refine r σ H Z ρ _ _ s w (f.xx σ) _ fun u d ρ' Z' H' q o => ?_
    cases d with
    | int y =>
      refine ⟨x', y, rv, o.rep, ?_⟩
      exact set_fit (d := .int (gg x' y)) ⟨o.st, rfl, o.nd, o.step⟩ (lt_of_get hi) f q
    | _ => exact q.elim
  · exact w.elim
/-- text += text -/
theorem ip_addS : PIp X .Add (fun x y H Q => ∃ i j, x = .str i ∧ y = .str j ∧ i.length + j.length ≤ sizeLine ∧ Q (.str (i ++ j)) H) := fun pins s σ H x y v u Q I rx ry q => iop_add_str pins s σ H x y v u Q I rx ry q
def sAugS (i : Nat) (wa : Ew) : Sw := fun D ρ => match ρ[i]? with
  | some (some (.str x)) => wa ρ (fun d ρ' => match d with
    | .str y => x.length + y.length ≤ sizeLine ∧ D.nx (ρ'.set i (some (.str (x ++ y))))
    | _ => False) D.xx
  | _ => False
theorem ds_augS {i : Nat} {x : Str} {pos' : Pos} (hN : X.N.Nodup) (hi : X.N[i]? = some x) (hx : Loc X.env.scope x) (h : DE X W e wa) (hf : X.fn x = true ∨ X.env.scope.names.lookup x = some .local := by first | exact .inl rfl | exact .inr rfl | assumption) : DS X W (.AugAssign (.Name x pos') .Add e pos) (sAugS i wa) := by
  obtain ⟨t, p, r⟩ := h
  refine ⟨_, ps_aug hN hi hx p ip_addS hf, fun σ H Z ρ D DD s w f => ?_⟩
  unfold sAugS at w
  split at w
  · rename_i x' hx'
    obtain ⟨v, h1, rv⟩ := s.rep i _ hx'
    refine ⟨v, h1, ?_⟩
    refine r σ H Z ρ _ _ s w (f.xx σ) _ fun u d ρ' Z' H' q o => ?_
    cases d with
    | str y =>
      refine ⟨x', y, rv, o.rep, q.1, ?_⟩
      exact set_fit (d := .str (x' ++ y)) ⟨o.st, rfl, o.nd, o.step⟩ (lt_of_get hi) f q.2
    | _ => exact q.elim
  · exact w.elim
end

/-! ### what is walked -/
/-- the iterator J gives the items l, whatever comes on top of Z -/
def Walk (K : PySem.W.Frag) (Z : Hp) (J : It) (l : List D) : Prop := owns l = [] ∧ ∀ (Z1 H1 : Hp), Sub Z Z1 → Sub Z1 H1 → ∀ i : Nat,
  (∀ d, l[i]? = some d → J.go i H1 ∧ ∀ x H2, J.yld i H1 x H2 → ∃ Z2, Rep K Z2 H2 d x ∧ Sub Z2 H2 ∧ Sub Z1 Z2 ∧ Sub H1 H2 ∧ ∀ a, Z1 a = none → Z2 a ≠ none → H1 a = none) ∧ (l[i]? = none → J.stop i H1)
structure DI (X : Cx) (W : WX) (tg iter : Expr) (wi : Iw) : Prop where
  run : ∃ t, PI X tg iter t ∧ ∀ (σ : L2.St) (H Z : Hp) (ρ : Env) (Q : List D → Env → Prop) (Qx : QX), St X.K X.N.length Z H σ ρ → wi ρ Q Qx → FitX X.K X.N.length W Z H (eo ρ) σ Qx →
    ∀ R : It → Hp → Prop, (∀ l ρ' Z' H' J, Q l ρ' → OutB X.K X.N.length Z H (eo ρ) σ Z' H' ρ' → Walk X.K Z' J l → R J H') → t σ H R
section
variable {X : Cx} {W : WX} {a b c e tg iter : Expr} {es : List Expr} {pos : Pos} {wp wq : Pw} {wa : Ew} {ws : Aw}
theorem get_none_len {α : Type} {l : List α} {i : Nat} (h : l[i]? = none) : l.length ≤ i := by simpa using h
theorem walk_list {K : PySem.W.Frag} {Z H : Hp} {p : Addr} {vs : List V} {l : List D} (hs : SqL K Z p vs) (hr : Reps K Z H l vs) (n : owns l = [])
    (one : ∀ (Z1 H1 : Hp) (ys : List V), Sub Z Z1 → Sub Z1 H1 → SqL K H1 p ys → True) : Walk K Z (Itl K p) l := by
  refine ⟨n, fun Z1 H1 hz hh i => ⟨fun d hd => ?_, fun hd => ?_⟩⟩
  · obtain ⟨v, h1, h2⟩ := hr.get hd
    have hS : SqL K H1 p vs := sub_l (hz.trans hh) hs
    refine ⟨⟨vs, v, hS, h1⟩, fun x H2 hy => ?_⟩
    obtain ⟨rfl, hx⟩ := hy
    have : x = v := Option.some.inj ((hx vs hS).symm.trans h1)
    subst this
    have on : own d = [] := owns_nil.mp n d (List.mem_of_getElem? hd)
    exact ⟨Z1, Rep.sh hz on h2, hh, Sub.refl _, Sub.refl _, fun a z z' => absurd z z'⟩
  · exact ⟨vs, sub_l (hz.trans hh) hs, by rw [hr.length]; exact get_none_len hd⟩
theorem walk_tup {K : PySem.W.Frag} {Z H : Hp} {p : Addr} {vs : List V} {l : List D} (hs : SqT K Z p vs) (hr : Reps K Z H l vs) (n : owns l = []) : Walk K Z (Itt K p) l := by
  refine ⟨n, fun Z1 H1 hz hh i => ⟨fun d hd => ?_, fun hd => ?_⟩⟩
  · obtain ⟨v, h1, h2⟩ := hr.get hd
    have hS : SqT K H1 p vs := sub_t (hz.trans hh) hs
    refine ⟨⟨vs, v, hS, h1⟩, fun x H2 hy => ?_⟩
    obtain ⟨rfl, hx⟩ := hy
    have : x = v := Option.some.inj ((hx vs hS).symm.trans h1)
    subst this
    have on : own d = [] := owns_nil.mp n d (List.mem_of_getElem? hd)
    exact ⟨Z1, Rep.sh hz on h2, hh, Sub.refl _, Sub.refl _, fun a z z' => absurd z z'⟩
  · exact ⟨vs, sub_t (hz.trans hh) hs, by rw [hr.length]; exact get_none_len hd⟩
/-- iseq from lo on -/
def iseq (lo : Int) (n : Nat) : List D := (List.range n).map fun (k : Nat) => D.int (lo + (k : Int))
theorem iseq_own (lo : Int) (n : Nat) : owns (iseq lo n) = [] := owns_map_nil (fun _ => rfl) _
theorem iseq_len (lo : Int) (n : Nat) : (iseq lo n).length = n := by simp [iseq]
theorem iseq_get {lo : Int} {n i : Nat} {d : D} : (iseq lo n)[i]? = some d ↔ i < n ∧ d = .int (lo + (i : Int)) := by
  unfold iseq
  rw [List.getElem?_map]
  by_cases h : i < n
  · rw [List.getElem?_range h]
    simp [h, eq_comm]
  · rw [List.getElem?_eq_none (by simp; omega)]
    simp [h]
theorem walk_rng {K : PySem.W.Frag} {Z : Hp} {lo : Int} {n : Nat} : Walk K Z (Itr lo n) (iseq lo n) := by
  refine ⟨iseq_own _ _, fun Z1 H1 hz hh i => ⟨fun d hd => ?_, fun hd => ?_⟩⟩
  · obtain ⟨hi, rfl⟩ := iseq_get.mp hd
    refine ⟨hi, fun x H2 hy => ?_⟩
    obtain ⟨rfl, rfl⟩ := hy
    exact ⟨Z1, rfl, hh, Sub.refl _, Sub.refl _, fun a z z' => absurd z z'⟩
  · have := get_none_len hd
    rw [iseq_len] at this
    exact this
/-- a list that is known, or is made known -/
def iLs (wa : Ew) : Iw := fun ρ Q Qx => wa ρ (fun d ρ' => match d with
  | .lst none l => Q l ρ'
  | .lsk l => Q l ρ'
  | _ => False) Qx
theorem di_list (h : DE X W iter wa) : DI X W tg iter (iLs wa) := by
  obtain ⟨t, p, r⟩ := h
  refine ⟨_, pi_list p, fun σ H Z ρ Q Qx s w fx R q => ?_⟩
  refine r σ H Z ρ _ Qx s w fx _ fun v d ρ' Z' H' w' o => ?_
  cases d with
  | lst m l => cases m with
    | none =>
      obtain ⟨n, p, vs, e, hs, hr⟩ := o.rep
      exact ⟨p, e, ⟨vs, SqL.of (o.st.sub p _ hs)⟩, q l ρ' Z' H' _ w' o.b (walk_list (SqL.of hs) hr n fun _ _ _ _ _ _ => trivial)⟩
    | some ad => exact w'.elim
  | lsk l =>
    obtain ⟨n, p, vs, e, hs, hr⟩ := o.rep
    exact ⟨p, e, ⟨vs, sub_l o.st.sub hs⟩, q l ρ' Z' H' _ w' o.b (walk_list hs hr n fun _ _ _ _ _ _ => trivial)⟩
  | _ => exact w'.elim
def iTp (wa : Ew) : Iw := fun ρ Q Qx => wa ρ (fun d ρ' => match d with
  | .tup l => Q l ρ'
  | _ => False) Qx
theorem di_tup (h : DE X W iter wa) : DI X W tg iter (iTp wa) := by
  obtain ⟨t, p, r⟩ := h
  refine ⟨_, pi_tup p, fun σ H Z ρ Q Qx s w fx R q => ?_⟩
  refine r σ H Z ρ _ Qx s w fx _ fun v d ρ' Z' H' w' o => ?_
  cases d with
  | tup l =>
    obtain ⟨n, p, vs, e, hs, hr⟩ := o.rep
    exact ⟨p, e, ⟨vs, sub_t o.st.sub hs⟩, q l ρ' Z' H' _ w' o.b (walk_tup hs hr n)⟩
  | _ => exact w'.elim
def Rg (i : Int) : Prop := -(2 ^ 62) ≤ i ∧ i < 2 ^ 62
def iRg1 (ws : Aw) : Iw := fun ρ Q Qx => ws ρ (fun as ρ' => match as with
  | [.val (.int j)] => Rg j ∧ Q (iseq 0 j.toNat) ρ'
  | _ => False) Qx
theorem di_rng1 {p : Pos} (h : DA X W [a] ws) (hg : Gl X "range") (hm : X.mg "range" = none) (hs : starEach [a] X.env = [(false, eval a X.env)] := by rfl) : DI X W tg (.Call (.Name "range" p) [a] [] pos) (iRg1 ws) := by
  obtain ⟨t, p, r⟩ := h
  refine ⟨_, pi_range1 hg hm p hs, fun σ H Z ρ Q Qx s w fx R q => ?_⟩
  refine r σ H Z ρ _ Qx s w fx _ fun vs as ρ' Z' H' w' o => ?_
  split at w'
  · rename_i j
    obtain ⟨v, vr, e, r1, r2⟩ := o.rep
    obtain ⟨hj, w'⟩ := w'
    refine ⟨j, by rw [e, show v = .int j from r1, show vr = [] from r2], hj.1, hj.2, q _ ρ' Z' H' _ w' ⟨o.st, o.step⟩ walk_rng⟩
  · exact w'.elim
def iRg2 (ws : Aw) : Iw := fun ρ Q Qx => ws ρ (fun as ρ' => match as with
  | [.val (.int i), .val (.int j)] => Rg i ∧ Rg j ∧ Q (iseq i (j - i).toNat) ρ'
  | _ => False) Qx
theorem di_rng2 {p : Pos} (h : DA X W [a, b] ws) (hg : Gl X "range") (hm : X.mg "range" = none) (hs : starEach [a, b] X.env = [(false, eval a X.env), (false, eval b X.env)] := by rfl) (hs2 : starEach [b] X.env = [(false, eval b X.env)] := by rfl) : DI X W tg (.Call (.Name "range" p) [a, b] [] pos) (iRg2 ws) := by
  obtain ⟨t, p, r⟩ := h
  refine ⟨_, pi_range2 hg hm p hs hs2, fun σ H Z ρ Q Qx s w fx R q => ?_⟩
  refine r σ H Z ρ _ Qx s w fx _ fun vs as ρ' Z' H' w' o => ?_
  split at w'
  · rename_i i j
    obtain ⟨v, vr, e, r1, v2, vr2, e2, r2, r3⟩ := o.rep
    obtain ⟨hi, hj, w'⟩ := w'
    refine ⟨i, j, by rw [e, show v = .int i from r1, e2, show v2 = .int j from r2, show vr2 = [] from r3], ⟨hi.1, hi.2, hj.1, hj.2⟩, q _ ρ' Z' H' _ w' ⟨o.st, o.step⟩ walk_rng⟩
  · exact w'.elim
end

/-! ### for, while -/
section
variable {X : Cx} {W : WX} {tg iter c : Expr} {body : List Stmt} {pos : Pos} {wi : Iw} {wt : Tw} {wb : Sw} {g : Gw} {js : List Nat}
@[irreducible] def sFor (wi : Iw) (g : Gw) (wb : Sw) : Sw := fun D ρ => wi ρ (fun l ρ1 => ∃ Inv : Nat → Env → Prop, Inv 0 ρ1 ∧
  (∀ i d ρ2, l[i]? = some d → Inv i ρ2 → g d ρ2 fun ρ3 => wb { D with nx := Inv (i + 1), ct := Inv (i + 1), bk := D.nx } ρ3) ∧ (∀ ρ2, Inv l.length ρ2 → D.nx ρ2)) D.xx
theorem sFor_eq : sFor wi g wb = fun D ρ => wi ρ (fun l ρ1 => ∃ Inv : Nat → Env → Prop, Inv 0 ρ1 ∧
  (∀ i d ρ2, l[i]? = some d → Inv i ρ2 → g d ρ2 fun ρ3 => wb { D with nx := Inv (i + 1), ct := Inv (i + 1), bk := D.nx } ρ3) ∧ (∀ ρ2, Inv l.length ρ2 → D.nx ρ2)) D.xx := by unfold sFor; rfl
/-- the step of an item laid -/
theorem item_step {K : PySem.W.Frag} {n : Nat} {Z H Z2 H2 : Hp} {σ : L2.St} {ρ : Env} (s : St K n Z H σ ρ) (h1 : Sub Z2 H2) (h2 : Sub Z Z2) (h3 : Sub H H2) (h4 : ∀ a, Z a = none → Z2 a ≠ none → H a = none) : OutB K n Z H (eo ρ) σ Z2 H2 ρ := by
  refine ⟨s.mono h1 h2 (fun a _ o e => h3 a o e) fun a ha => ?_, ⟨h2, fun a o e _ => h3 a o e, fun a ha => .inl ha, fun a z z' => .inr (h4 a z z')⟩⟩
  cases e : Z2 a with
  | none => rfl
  | some u => exact absurd (h4 a (s.ownd a ha).1 (by rw [e]; exact fun z => nomatch z)) (s.ownd a ha).2
theorem ds_for (hp : PassesOwn (model X.prog X.w) X.A X.env X.xe) (hc : X.calm = true) (hi : DI X W tg iter wi) (hg : DG X tg g js) (hb : DSs X W body wb) (hs : ∀ x, foldedSetIterable iter X.env x = pure x := by intro _; rfl) : DS X W (.For tg iter body [] pos) (sFor wi g wb) := by
  obtain ⟨ti, pi', ri⟩ := hi
  obtain ⟨tg', pg, rg⟩ := hg
  obtain ⟨tb, pb, rb⟩ := hb
  refine ⟨_, ps_for hp hc pi' pg pb hs, fun σ H Z ρ D DD s w f => ?_⟩
  rw [sFor_eq] at w
  refine ri σ H Z ρ _ _ s w (f.xx σ) _ fun l ρ1 Z1 H1 J w1 o1 wk => ?_
  obtain ⟨Inv, i0, iS, iE⟩ := w1
  obtain ⟨on, wk⟩ := wk
  have f1 := f.pre o1.step
  refine ⟨fun i m σ' H' => i + m = l.length ∧ ∃ ρ' Z', Inv i ρ' ∧ OutB X.K X.N.length Z1 H1 (eo ρ1) σ' Z' H' ρ', ⟨l.length, by omega, ρ1, Z1, i0, OutB.same o1.st⟩, fun i m σ' H' hW => ?_⟩
  obtain ⟨em, ρ', Z', hI, o⟩ := hW
  have wki := wk Z' H' o.step.zz o.st.sub i
  cases hd : l[i]? with
  | none =>
    have : i = l.length := by have := get_none_len hd; omega
    subst this
    exact .inl ⟨wki.2 hd, f1.nx σ' ρ' Z' H' (iE ρ' hI) o⟩
  | some d =>
    obtain ⟨hgo, hy⟩ := wki.1 d hd
    have hlt := lt_of_get hd
    refine .inr ⟨hgo, fun σ2 H2 => ∃ ρ2 Z2, Inv (i + 1) ρ2 ∧ OutB X.K X.N.length Z1 H1 (eo ρ1) σ2 Z2 H2 ρ2, fun σ2 H2 hN => ⟨m - 1, by omega, by omega, hN⟩, fun x H2 hx => ?_⟩
    obtain ⟨Z2, rx, k1, k2, k3, k4⟩ := hy x H2 hx
    have ow : own d = [] := owns_nil.mp on d (List.mem_of_getElem? hd)
    have o2 := item_step o.st k1 k2 k3 k4
    refine rg σ' H2 Z2 ρ' d x _ o2.st rx (nd_of_nil ow o2.st.nd) (iS i d ρ' hd hI) _ fun σ3 ρ3 w3 s3 h3 _ _ => ?_
    have st3 : Step Z1 H1 (eo ρ1) Z2 H2 (eo ρ3) := (o.step.trans o2.step).sub fun a ha => by
      have := h3 a ha
      rw [ow] at this; exact this
    refine rb σ3 H2 Z2 ρ3 _ _ s3 w3 ⟨fun σ4 ρ4 Z4 H4 q o4 => ⟨ρ4, Z4, q, o4.pre st3⟩, fun σ4 ρ4 Z4 H4 q o4 => f1.nx σ4 ρ4 Z4 H4 q (o4.pre st3), fun σ4 ρ4 Z4 H4 q o4 => ⟨ρ4, Z4, q, o4.pre st3⟩, fun v d σ4 ρ4 Z4 H4 q o4 => f1.rt v d σ4 ρ4 Z4 H4 q (o4.pre st3), fun σ4 => (f1.xx σ4).pre st3⟩
@[irreducible] def sWhile (wt : Tw) (wb : Sw) : Sw := fun D ρ => ∃ Inv : Nat → Env → Prop, (∃ m, Inv m ρ) ∧ ∀ m ρ1, Inv m ρ1 → wt ρ1 (fun b ρ2 => if b = true then wb { D with nx := fun ρ3 => ∃ m', m' < m ∧ Inv m' ρ3, ct := fun ρ3 => ∃ m', m' < m ∧ Inv m' ρ3, bk := D.nx } ρ2 else D.nx ρ2) D.xx
theorem sWhile_eq : sWhile wt wb = fun D ρ => ∃ Inv : Nat → Env → Prop, (∃ m, Inv m ρ) ∧ ∀ m ρ1, Inv m ρ1 → wt ρ1 (fun b ρ2 => if b = true then wb { D with nx := fun ρ3 => ∃ m', m' < m ∧ Inv m' ρ3, ct := fun ρ3 => ∃ m', m' < m ∧ Inv m' ρ3, bk := D.nx } ρ2 else D.nx ρ2) D.xx := by unfold sWhile; rfl
theorem ds_while (hp : PassesOwn (model X.prog X.w) X.A X.env X.xe) (hc : DT X W c wt) (hb : DSs X W body wb) : DS X W (.While c body [] pos) (sWhile wt wb) := by
  obtain ⟨tc, pc, rc⟩ := hc
  obtain ⟨tb, pb, rb⟩ := hb
  refine ⟨_, ps_while hp pc pb, fun σ H Z ρ D DD s w f => ?_⟩
  rw [sWhile_eq] at w
  obtain ⟨Inv, ⟨m0, i0⟩, iS⟩ := w
  refine ⟨fun m σ' H' => ∃ ρ' Z', Inv m ρ' ∧ OutB X.K X.N.length Z H (eo ρ) σ' Z' H' ρ', ⟨m0, ρ, Z, i0, OutB.same s⟩, fun m σ1 H1 hW => ?_⟩
  obtain ⟨ρ1, Z1, hI, o1⟩ := hW
  have f1 := f.pre o1.step
  refine rc σ1 H1 Z1 ρ1 _ _ o1.st (iS m ρ1 hI) (f1.xx σ1) _ fun b ρ2 Z2 H2 w2 o2 => ?_
  cases b with
  | true =>
    refine ⟨fun σ3 H3 => ∃ m', m' < m ∧ ∃ ρ3 Z3, Inv m' ρ3 ∧ OutB X.K X.N.length Z H (eo ρ) σ3 Z3 H3 ρ3, fun σ3 H3 h => h, ?_⟩
    have st2 := o1.step.trans o2.step
    have f2 := f.pre st2
    refine rb σ1 H2 Z2 ρ2 _ _ o2.st w2 ⟨fun σ4 ρ4 Z4 H4 q o4 => ?_, fun σ4 ρ4 Z4 H4 q o4 => f2.nx σ4 ρ4 Z4 H4 q o4, fun σ4 ρ4 Z4 H4 q o4 => ?_, f2.rt, f2.xx⟩
    · obtain ⟨m', hm, hq⟩ := q; exact ⟨m', hm, ρ4, Z4, hq, o4.pre st2⟩
    · obtain ⟨m', hm, hq⟩ := q; exact ⟨m', hm, ρ4, Z4, hq, o4.pre st2⟩
  | false => exact f1.nx σ1 ρ2 Z2 H2 w2 o2
end

/-! ### comprehensions -/
def wipeE (ρ : Env) : List Nat → Env
  | [] => ρ
  | v :: vs => (wipeE ρ vs).set v none
section
variable {K : PySem.W.Frag} {n : Nat} {Z H : Hp} {σ σ' : L2.St} {ρ : Env}
theorem wipeE_len : ∀ (vs : List Nat), (wipeE ρ vs).length = ρ.length
  | [] => rfl
  | v :: vs => by show ((wipeE ρ vs).set v none).length = _; rw [List.length_set, wipeE_len vs]
theorem wipeE_get : ∀ {vs : List Nat} {i : Nat} {d : D}, (wipeE ρ vs)[i]? = some (some d) → i ∉ vs ∧ ρ[i]? = some (some d)
  | [], i, d, h => ⟨by simp, h⟩
  | v :: vs, i, d, h => by
    have h' : ((wipeE ρ vs).set v none)[i]? = some (some d) := h
    by_cases e : v = i
    · subst e
      by_cases hl : v < (wipeE ρ vs).length
      · rw [getq_set_self hl] at h'; cases h'
      · rw [List.getElem?_eq_none (by simp; omega)] at h'; cases h'
    · rw [getq_set_ne e] at h'
      obtain ⟨h1, h2⟩ := wipeE_get h'
      exact ⟨by simp [h1, Ne.symm e], h2⟩
theorem wipeE_sub : ∀ (vs : List Nat), (eo (wipeE ρ vs)).Sublist (eo ρ)
  | [] => List.Sublist.refl _
  | v :: vs => eo_none_sub.trans (wipeE_sub vs)
theorem wipe_get : ∀ {vs : List Nat} {i : Nat}, i ∉ vs → (wipe σ vs)[i]? = σ[i]? := fun {vs i} h => wipe_out h
/-- the block's names are forgotten -/
theorem St.wipe (s : St K n Z H σ' ρ) (vs : List Nat) (hl : σ.length = σ'.length) (h : ∀ j, j ∉ vs → σ[j]? = σ'[j]?) : St K n Z H σ (wipeE ρ vs) := by
  refine ⟨s.sub, by rw [wipeE_len, hl, s.len], by rw [wipeE_len, s.ln], fun i d hd => ?_, s.nd.sublist (wipeE_sub vs)⟩
  obtain ⟨h1, h2⟩ := wipeE_get hd
  obtain ⟨v, hv, r⟩ := s.rep i d h2
  exact ⟨v, by rw [h i h1]; exact hv, r⟩
end
/-- no exception leaves a block -/
abbrev W0 : WX := fun _ _ _ _ => False
theorem wipe_eq : ∀ {vs : List Nat} {σ τ : L2.St}, σ.length = τ.length → (∀ j, j ∉ vs → σ[j]? = τ[j]?) → wipe σ vs = wipe τ vs := by
  intro vs σ τ hl h
  apply List.ext_getElem?
  intro j
  by_cases hj : j ∈ vs
  · have none_at : ∀ (ws : List Nat) (υ : L2.St), j ∈ ws → j < υ.length → (wipe υ ws)[j]? = some none := by
      intro ws
      induction ws with
      | nil => intro υ hm; cases hm
      | cons v ws ih =>
        intro υ hm hlt
        show ((wipe υ ws).set v none)[j]? = some none
        by_cases e : v = j
        · subst e; exact getq_set_self (by rw [wipe_length]; exact hlt)
        · rw [getq_set_ne e]
          rcases List.mem_cons.mp hm with z | z
          · exact absurd z.symm e
          · exact ih υ z hlt
    by_cases hlt : j < σ.length
    · rw [none_at vs σ hj hlt, none_at vs τ hj (hl ▸ hlt)]
    · rw [List.getElem?_eq_none (by rw [wipe_length]; omega), List.getElem?_eq_none (by rw [wipe_length]; omega)]
  · rw [wipe_get hj, wipe_get hj, h j hj]
section
variable {X : Cx} {W : WX} {elt tg iter c : Expr} {ifs : List Expr} {pos : Pos} {wi : Iw} {wt : Tw} {we : Ew} {g : Gw} {js : List Nat} {scope : Scope} {own' : List (Str × Nat)}
/-- the tests of a clause -/
structure DTs (X : Cx) (ifs : List Expr) (w : Tw) : Prop where
  run : ∃ t, PTs X ifs t ∧ ∀ (σ : L2.St) (H Z : Hp) (ρ : Env) (Q : Bool → Env → Prop), St X.K X.N.length Z H σ ρ → w ρ Q (fun _ _ => False) →
    ∀ QQ : Bool → Hp → Prop, (∀ b ρ' Z' H', Q b ρ' → OutB X.K X.N.length Z H (eo ρ) σ Z' H' ρ' → QQ b H') → t σ H QQ
def tAll : Tw := fun ρ Q _ => Q true ρ
theorem dts_nil : DTs X [] tAll := ⟨_, pts_nil, fun σ H Z ρ Q s w QQ q => q true ρ Z H w (OutB.same s)⟩
theorem dts_one (h : DT X W0 c wt) : DTs X [c] wt := by
  obtain ⟨t, p, r⟩ := h
  exact ⟨_, pts_one p, fun σ H Z ρ Q s w QQ q => r σ H Z ρ Q _ s w FitX.none QQ q⟩
def eLc (wi : Iw) (g : Gw) (wt : Tw) (we : Ew) (vs : List Nat) : Ew := fun ρ Q Qx => wi ρ (fun l ρ1 => ∃ Inv : Nat → List D → Env → Prop, Inv 0 [] (wipeE ρ1 vs) ∧
  (∀ i d acc ρ2, l[i]? = some d → Inv i acc ρ2 → g d (wipeE ρ2 vs) fun ρ3 => wt ρ3 (fun b ρ4 => if b = true then we ρ4 (fun y ρ5 => acc.length < sizeLine ∧ Inv (i + 1) (acc ++ [y]) (wipeE ρ5 vs)) (fun _ _ => False) else Inv (i + 1) acc (wipeE ρ4 vs)) (fun _ _ => False)) ∧
  (∀ acc ρ2, Inv l.length acc ρ2 → ∀ p, Q (.lst (some p) acc) ρ2)) Qx
/-- the reading of a comprehension, from that of its parts -/
theorem lc_read {ti : TI} {tg' : TG} {tt : TT} {te : TE} {vs : List Nat}
    (ri : ∀ (σ : L2.St) (H Z : Hp) (ρ : Env) (Q : List D → Env → Prop) (Qx : QX), St X.K X.N.length Z H σ ρ → wi ρ Q Qx → FitX X.K X.N.length W Z H (eo ρ) σ Qx → ∀ R : It → Hp → Prop, (∀ l ρ' Z' H' J, Q l ρ' → OutB X.K X.N.length Z H (eo ρ) σ Z' H' ρ' → Walk X.K Z' J l → R J H') → ti σ H R)
    (rg : ∀ (σ : L2.St) (H Z : Hp) (ρ : Env) (d : D) (v : V) (Q : Env → Prop), St X.K X.N.length Z H σ ρ → Rep X.K Z H d v → (own d ++ eo ρ).Nodup → g d ρ Q → ∀ QQ : L2.St → Hp → Prop, (∀ σ' ρ', Q ρ' → St X.K X.N.length Z H σ' ρ' → (∀ a ∈ eo ρ', a ∈ own d ++ eo ρ) → σ'.length = σ.length → (∀ j, j ∉ js → σ'[j]? = σ[j]?) → QQ σ' H) → tg' v σ H QQ)
    (rt : ∀ (σ : L2.St) (H Z : Hp) (ρ : Env) (Q : Bool → Env → Prop), St X.K X.N.length Z H σ ρ → wt ρ Q (fun _ _ => False) → ∀ QQ : Bool → Hp → Prop, (∀ b ρ' Z' H', Q b ρ' → OutB X.K X.N.length Z H (eo ρ) σ Z' H' ρ' → QQ b H') → tt σ H QQ)
    (re : ∀ (σ : L2.St) (H Z : Hp) (ρ : Env) (Q : D → Env → Prop) (Qx : QX), St X.K X.N.length Z H σ ρ → we ρ Q Qx → FitX X.K X.N.length W0 Z H (eo ρ) σ Qx → ∀ QQ : VK, (∀ v d ρ' Z' H', Q d ρ' → Out X.K X.N.length Z H (eo ρ) σ Z' H' v d ρ' → QQ v H') → te σ H QQ)
    (hj : ∀ j ∈ js, j ∈ vs) {σ : L2.St} {H Z : Hp} {ρ : Env} {Q : D → Env → Prop} {Qx : QX} (s : St X.K X.N.length Z H σ ρ) (w : eLc wi g wt we vs ρ Q Qx) (fx : FitX X.K X.N.length W Z H (eo ρ) σ Qx) (QQ : VK)
    (q : ∀ v d ρ' Z' H', Q d ρ' → Out X.K X.N.length Z H (eo ρ) σ Z' H' v d ρ' → QQ v H') : tLc ti tg' tt te vs σ H QQ := by
  refine ri σ H Z ρ _ Qx s w fx _ fun l ρ1 Z1 H1 J w1 o1 wk => ?_
  obtain ⟨Inv, i0, iS, iE⟩ := w1
  obtain ⟨on, wk⟩ := wk
  intro p hp
  have zp : Z1 p = none := by
    cases e : Z1 p with
    | none => rfl
    | some u => rw [o1.st.sub p u e] at hp; cases hp
  have st0 : St X.K X.N.length Z1 (upd H1 p (.lst [])) σ (wipeE ρ1 vs) := (o1.st.wipe vs rfl fun _ _ => rfl).grow hp
  have stp0 : Step Z1 H1 (eo ρ1) Z1 (upd H1 p (.lst [])) (p :: eo (wipeE ρ1 vs)) := (step_new hp).sub fun a ha => by
    rcases List.mem_cons.mp ha with z | z
    · rw [z]; exact List.mem_cons_self ..
    · exact List.mem_cons_of_mem _ ((wipeE_sub vs).subset z)
  refine ⟨fun i m H' => i + m = l.length ∧ ∃ ρ' acc Z', Inv i acc ρ' ∧ wipeE ρ' vs = wipeE ρ' vs ∧ Out X.K X.N.length Z1 H1 (eo ρ1) σ Z' H' (.ref p) (.lst (some p) acc) ρ', ⟨l.length, by omega, _, [], Z1, i0, rfl, ⟨st0, ⟨rfl, zp, [], upd_same, rfl⟩, ?_, stp0⟩⟩, fun i m H' hW => ?_⟩
  · show (p :: eo (wipeE ρ1 vs)).Nodup
    exact List.nodup_cons.mpr ⟨fun hc => (o1.st.ownd p ((wipeE_sub vs).subset hc)).2 hp, st0.nd⟩
  obtain ⟨em, ρ', acc, Z', hI, _, o⟩ := hW
  have wki := wk Z' H' o.step.zz o.st.sub i
  cases hd : l[i]? with
  | none =>
    have : i = l.length := by have := get_none_len hd; omega
    subst this
    exact .inl ⟨wki.2 hd, q _ _ ρ' Z' H' (iE acc ρ' hI p) (o.pre o1.step)⟩
  | some d =>
    obtain ⟨hgo, hy⟩ := wki.1 d hd
    have hlt := lt_of_get hd
    refine .inr ⟨hgo, fun H2 => ∃ ρ2 acc2 Z2, Inv (i + 1) acc2 ρ2 ∧ wipeE ρ2 vs = wipeE ρ2 vs ∧ Out X.K X.N.length Z1 H1 (eo ρ1) σ Z2 H2 (.ref p) (.lst (some p) acc2) ρ2, fun H2 hN => ⟨m - 1, by omega, by omega, hN⟩, fun x H2 hx => ?_⟩
    obtain ⟨Z2, rx, k1, k2, k3, k4⟩ := hy x H2 hx
    have ow : own d = [] := owns_nil.mp on d (List.mem_of_getElem? hd)
    have sw : St X.K X.N.length Z' H' (wipe σ vs) (wipeE ρ' vs) := o.st.wipe vs (wipe_length σ vs) fun j hj => wipe_get hj
    have o2 := item_step sw k1 k2 k3 k4
    have ndp := List.nodup_append.mp o.nd
    have ownp : ∀ a ∈ own (.lst (some p) acc), a ∉ eo (wipeE ρ' vs) := fun a ha hc => ndp.2.2 a ha a ((wipeE_sub vs).subset hc) rfl
    -- what is carried aside
    have carry : ∀ {ρ4 : Env} {Z4 H4 : Hp} {F4 : List Addr}, Step Z' H' (eo (wipeE ρ' vs)) Z4 H4 F4 → Rep X.K Z4 H4 (.lst (some p) acc) (.ref p) := fun {ρ4 Z4 H4 F4} st4 => by
      have od := Rep.ownd _ _ o.rep
      exact Rep.aside st4 o.rep ownp (fun a ha => (od a ha).1) (fun a ha => (od a ha).2)
    have disj : ∀ {Z4 H4 : Hp} {F4 : List Addr}, Step Z' H' (eo (wipeE ρ' vs)) Z4 H4 F4 → ∀ a ∈ own (.lst (some p) acc), a ∉ F4 := fun {Z4 H4 F4} st4 a ha hc => by
      rcases st4.fre a hc with z | z
      · exact ownp a ha z
      · exact (Rep.ownd _ _ o.rep a ha).2 z
    have whole : ∀ {Z4 H4 : Hp} {F4 G4 : List Addr}, Step Z' H' (eo (wipeE ρ' vs)) Z4 H4 F4 → (∀ a ∈ G4, a ∈ own (.lst (some p) acc) ∨ a ∈ F4) → Step Z1 H1 (eo ρ1) Z4 H4 G4 := fun {Z4 H4 F4 G4} st4 hG => by
      refine o.step.trans ⟨st4.zz, fun a u e nin => st4.keep a u e fun hc => nin (List.mem_append_right _ ((wipeE_sub vs).subset hc)), fun a ha => ?_, fun a z1 z2 => ?_⟩
      · rcases hG a ha with z | z
        · exact .inl (List.mem_append_left _ z)
        · rcases st4.fre a z with y | y
          · exact .inl (List.mem_append_right _ ((wipeE_sub vs).subset y))
          · exact .inr y
      · rcases st4.zfr a z1 z2 with y | y
        · exact .inl (List.mem_append_right _ ((wipeE_sub vs).subset y))
        · exact .inr y
    have ndw : (own d ++ eo (wipeE ρ' vs)).Nodup := nd_of_nil ow o2.st.nd
    refine rg (wipe σ vs) H2 Z2 (wipeE ρ' vs) d x _ o2.st rx ndw (iS i d acc ρ' hd hI) _ fun σ3 ρ3 w3 s3 h3 l3 j3 => ?_
    have h3' : ∀ a ∈ eo ρ3, a ∈ eo (wipeE ρ' vs) := fun a ha => by
      have := h3 a ha
      rw [ow] at this; exact this
    have l3' : σ3.length = σ.length := l3.trans (wipe_length σ vs)
    have j3' : ∀ j, j ∉ vs → σ3[j]? = σ[j]? := fun j hjv => by
      rw [j3 j fun hc => hjv (hj j hc)]
      exact wipe_get hjv
    refine ⟨wipe_eq l3' j3', ?_⟩
    have st3 : Step Z' H' (eo (wipeE ρ' vs)) Z2 H2 (eo ρ3) := o2.step.sub h3'
    refine rt σ3 H2 Z2 ρ3 _ s3 w3 _ fun b ρ4 Z4 H4 w4 o4 => ?_
    have st4 := st3.trans o4.step
    have back : ∀ {Z5 H5 : Hp} {ρ5 : Env}, St X.K X.N.length Z5 H5 σ3 ρ5 → St X.K X.N.length Z5 H5 σ (wipeE ρ5 vs) := fun {Z5 H5 ρ5} s5 => s5.wipe vs l3'.symm fun j hjv => (j3' j hjv).symm
    cases b with
    | true =>
      refine re σ3 H4 Z4 ρ4 _ _ o4.st w4 FitX.none _ fun v y ρ5 Z5 H5 w5 o5 => ?_
      have st5 := st4.trans o5.step
      have rp := carry (ρ4 := ρ5) st5
      obtain ⟨_, zp5, ws, hw, hr⟩ := rp
      obtain ⟨hlen, w5⟩ := w5
      refine ⟨ws, hw, by rw [hr.length]; exact hlen, ?_⟩
      have dsj := disj st5
      have pin : p ∉ own y ++ eo ρ5 := dsj p (List.mem_cons_self ..)
      have s5 := back o5.st
      -- the list grows
      have up : ∀ a, a ≠ p → ∀ o, H5 a = some o → (upd H5 p (.lst (ws ++ [v]))) a = some o := fun a hne o e => by rw [upd_ne hne]; exact e
      have sub5 : Sub Z5 (upd H5 p (.lst (ws ++ [v]))) := fun a u e => by
        by_cases hap : a = p
        · subst hap; rw [zp5] at e; cases e
        · rw [upd_ne hap]; exact o5.st.sub a u e
      have s6 : St X.K X.N.length Z5 (upd H5 p (.lst (ws ++ [v]))) σ (wipeE ρ5 vs) := s5.mono sub5 (Sub.refl _) (fun a ha o e => up a (fun z => pin (List.mem_append_right _ ((wipeE_sub vs).subset (z ▸ ha)))) o e) fun a ha => (s5.ownd a ha).1
      have ry : Rep X.K Z5 (upd H5 p (.lst (ws ++ [v]))) y v := Rep.mono (Sub.refl _) y v (fun a ha o e => up a (fun z => pin (List.mem_append_left _ (z ▸ ha))) o e) (fun a ha => (Rep.ownd y v o5.rep a ha).1) o5.rep
      have nacc : p ∉ owns acc := (List.nodup_cons.mp ndp.1).1
      have racc : Reps X.K Z5 (upd H5 p (.lst (ws ++ [v]))) acc ws := Reps.mono (Sub.refl _) acc ws (fun a ha o e => up a (fun z => nacc (z ▸ ha)) o e) (fun a ha => (Reps.ownd acc ws hr a ha).1) hr
      have ndy := List.nodup_append.mp o5.nd
      refine ⟨wipeE ρ5 vs, acc ++ [y], Z5, w5, rfl, ⟨s6, ⟨rfl, zp5, ws ++ [v], upd_same, racc.append (Reps.one ry)⟩, ?_, ?_⟩⟩
      · show (p :: owns (acc ++ [y]) ++ eo (wipeE ρ5 vs)).Nodup
        rw [owns_append]
        have e1 : owns [y] = own y := by show own y ++ [] = own y; rw [List.append_nil]
        rw [e1]
        have ndo : (own y ++ eo (wipeE ρ5 vs)).Nodup := o5.nd.sublist (List.Sublist.append_left (wipeE_sub vs) _)
        have : ((p :: owns acc) ++ (own y ++ eo (wipeE ρ5 vs))).Nodup := List.nodup_append.mpr ⟨ndp.1, ndo, fun a ha b hb e => dsj a ha (by
          subst e
          rcases List.mem_append.mp hb with z | z
          · exact List.mem_append_left _ z
          · exact List.mem_append_right _ ((wipeE_sub vs).subset z))⟩
        simpa [List.append_assoc] using this
      · have stu : Step Z' H' (p :: eo (wipeE ρ' vs)) Z5 (upd H5 p (.lst (ws ++ [v]))) (own y ++ eo ρ5) := ⟨st5.zz, fun a u e nin => by
            rw [upd_ne (show a ≠ p from fun z => nin (by rw [z]; exact List.mem_cons_self ..))]
            exact st5.keep a u e fun hc => nin (List.mem_cons_of_mem _ hc), fun a ha => (st5.fre a ha).imp (List.mem_cons_of_mem _) id, fun a z1 z2 => (st5.zfr a z1 z2).imp (List.mem_cons_of_mem _) id⟩
        refine o.step.trans ⟨stu.zz, fun a u e nin => stu.keep a u e fun hc => nin ?_, fun a ha => ?_, fun a z1 z2 => ?_⟩
        · rcases List.mem_cons.mp hc with z | z
          · exact List.mem_append_left _ (by rw [z]; exact List.mem_cons_self ..)
          · exact List.mem_append_right _ ((wipeE_sub vs).subset z)
        · have ha' : a ∈ p :: owns (acc ++ [y]) ++ eo (wipeE ρ5 vs) := ha
          rw [owns_append] at ha'
          have cases4 : a ∈ own (.lst (some p) acc) ∨ a ∈ own y ++ eo ρ5 := by
            simp only [List.cons_append, List.mem_cons, List.mem_append] at ha'
            rcases ha' with z | (z | z) | z
            · exact .inl (by rw [z]; exact List.mem_cons_self ..)
            · exact .inl (List.mem_cons_of_mem _ z)
            · have : a ∈ own y := by
                have e1 : owns [y] = own y := by show own y ++ [] = own y; rw [List.append_nil]
                rw [← e1]; exact z
              exact .inr (List.mem_append_left _ this)
            · exact .inr (List.mem_append_right _ ((wipeE_sub vs).subset z))
          rcases cases4 with z | z
          · exact .inl (List.mem_append_left _ z)
          · rcases st5.fre a z with y' | y'
            · exact .inl (List.mem_append_right _ ((wipeE_sub vs).subset y'))
            · exact .inr y'
        · rcases st5.zfr a z1 z2 with y' | y'
          · exact .inl (List.mem_append_right _ ((wipeE_sub vs).subset y'))
          · exact .inr y'
    | false =>
      have dsj := disj st4
      refine ⟨wipeE ρ4 vs, acc, Z4, w4, rfl, ⟨back o4.st, carry (ρ4 := ρ4) st4, ?_, whole (st4.sub fun a ha => (wipeE_sub vs).subset ha) fun a ha => List.mem_append.mp ha⟩⟩
      exact List.nodup_append.mpr ⟨ndp.1, o4.st.nd.sublist (wipeE_sub vs), fun a ha b hb e => dsj a ha (e ▸ (wipeE_sub vs).subset hb)⟩
end
end DL
set_option Elab.async false
set_option linter.all false
set_option maxRecDepth 100000
namespace DL
open PySem PySem.Spec PyProof.Rows L2

theorem PE.weak {X : Cx} {e : Expr} {t t' : TE} (h : PE X e t) (w : ∀ σ H Q, t' σ H Q → t σ H Q) : PE X e t' := ⟨fun pins s σ H Q I q => h.run pins s σ H Q I (w σ H Q q)⟩
theorem PG.weak {X : Cx} {e : Expr} {t t' : TG} (h : PG X e t) (w : ∀ v σ H Q, t' v σ H Q → t v σ H Q) : PG X e t' := ⟨fun pins s σ H v u Q I r q => h.run pins s σ H v u Q I r (w v σ H Q q)⟩
theorem PTs.weak {X : Cx} {e : List Expr} {t t' : TT} (h : PTs X e t) (w : ∀ σ H Q, t' σ H Q → t σ H Q) : PTs X e t' := ⟨fun pins s σ H Q I q => h.run pins s σ H Q I (w σ H Q q)⟩
section
variable {X : Cx} {W : WX} {elt tg iter c : Expr} {ifs : List Expr} {pos : Pos} {wi : Iw} {wt : Tw} {we : Ew} {g : Gw} {js : List Nat} {scope : Scope} {own' : List (Str × Nat)}
/-- the parts' readings hang on the block: one for all blocks -/
theorem lc_parts {vs : List Nat} (hi : DI X W tg iter wi)
    (hg : ∀ (s : Shared) (H : Hp) (C : Addr) (cl : List (Str × Addr)) (fp : List Addr), DG (X.blk s H scope (compEnvC scope cl C X.env) fp) tg g js)
    (ht : ∀ (s : Shared) (H : Hp) (C : Addr) (cl : List (Str × Addr)) (fp : List Addr), DTs (X.blk s H scope (compEnvC scope cl C X.env) fp) ifs wt)
    (he : ∀ (s : Shared) (H : Hp) (C : Addr) (cl : List (Str × Addr)) (fp : List Addr), DE (X.blk s H scope (compEnvC scope cl C X.env) fp) W0 elt we)
    (hj : ∀ j ∈ js, j ∈ vs) : ∃ (ti : TI) (tg' : TG) (tt : TT) (te : TE), PI X tg iter ti ∧ (∀ s H C cl fp, PG (X.blk s H scope (compEnvC scope cl C X.env) fp) tg tg') ∧ (∀ s H C cl fp, PTs (X.blk s H scope (compEnvC scope cl C X.env) fp) ifs tt) ∧ (∀ s H C cl fp, PE (X.blk s H scope (compEnvC scope cl C X.env) fp) elt te) ∧
      ∀ (σ : L2.St) (H Z : Hp) (ρ : Env) (Q : D → Env → Prop) (Qx : QX), St X.K X.N.length Z H σ ρ → eLc wi g wt we vs ρ Q Qx → FitX X.K X.N.length W Z H (eo ρ) σ Qx →
        ∀ QQ : VK, (∀ v d ρ' Z' H', Q d ρ' → Out X.K X.N.length Z H (eo ρ) σ Z' H' v d ρ' → QQ v H') → tLc ti tg' tt te vs σ H QQ := by
  obtain ⟨ti, pi', ri⟩ := hi
  refine ⟨ti, fun v σ H Q => ∀ s H' C cl fp, Classical.choose (hg s H' C cl fp).run v σ H Q, fun σ H Q => ∀ s H' C cl fp, Classical.choose (ht s H' C cl fp).run σ H Q, fun σ H Q => ∀ s H' C cl fp, Classical.choose (he s H' C cl fp).run σ H Q, pi',
    fun s H C cl fp => PG.weak (Classical.choose_spec (hg s H C cl fp).run).1 fun _ _ _ _ q => q s H C cl fp, fun s H C cl fp => PTs.weak (Classical.choose_spec (ht s H C cl fp).run).1 fun _ _ _ q => q s H C cl fp, fun s H C cl fp => PE.weak (Classical.choose_spec (he s H C cl fp).run).1 fun _ _ _ q => q s H C cl fp,
    fun σ H Z ρ Q Qx s w fx QQ q => ?_⟩
  exact lc_read ri (fun σ H Z ρ d v Q s r nd w QQ q s0 H0 C cl fp => (Classical.choose_spec (hg s0 H0 C cl fp).run).2 σ H Z ρ d v Q s r nd w QQ q)
    (fun σ H Z ρ Q s w QQ q s0 H0 C cl fp => (Classical.choose_spec (ht s0 H0 C cl fp).run).2 σ H Z ρ Q s w QQ q)
    (fun σ H Z ρ Q Qx s w fx QQ q s0 H0 C cl fp => (Classical.choose_spec (he s0 H0 C cl fp).run).2 σ H Z ρ Q Qx s w fx QQ q) hj s w fx QQ q
theorem de_lc (hc : X.calm = true) (hN : X.N.Nodup) (hi : DI X W tg iter wi) (ok : BlkOk X.N X.env.scope scope own')
    (hg : ∀ (s : Shared) (H : Hp) (C : Addr) (cl : List (Str × Addr)) (fp : List Addr), DG (X.blk s H scope (compEnvC scope cl C X.env) fp) tg g js)
    (ht : ∀ (s : Shared) (H : Hp) (C : Addr) (cl : List (Str × Addr)) (fp : List Addr), DTs (X.blk s H scope (compEnvC scope cl C X.env) fp) ifs wt)
    (he : ∀ (s : Shared) (H : Hp) (C : Addr) (cl : List (Str × Addr)) (fp : List Addr), DE (X.blk s H scope (compEnvC scope cl C X.env) fp) W0 elt we)
    (hj : ∀ j ∈ js, j ∈ own'.map (·.2) := by decide) (hs : ∀ x, foldedSetIterable iter X.env x = pure x := by intro _; rfl) :
    DE X W (.ListComp elt [⟨tg, iter, ifs, 0⟩] scope pos) (eLc wi g wt we (own'.map (·.2))) := by
  obtain ⟨ti, tg', tt, te, pi', pg, pt, pe, r⟩ := lc_parts hi hg ht he hj
  exact ⟨_, pe_lc hc hN pi' ok pg pt pe hs, r⟩
theorem ds_setLc {i : Nat} {y : Str} {py spos : Pos} (hc : X.calm = true) (hN : X.N.Nodup) (hy : X.N[i]? = some y) (hyl : X.env.scope.names.lookup y = some .local) (hsw : swapsWith (.ListComp elt [⟨tg, iter, ifs, 0⟩] scope pos) (some (.Name y py)) spos.line X.env = pure true)
    (hi : DI X W tg iter wi) (ok : BlkOk X.N X.env.scope scope own')
    (hg : ∀ (s : Shared) (H : Hp) (C : Addr) (cl : List (Str × Addr)) (fp : List Addr), DG (X.blk s H scope (compEnvC scope cl C X.env) fp) tg g js)
    (ht : ∀ (s : Shared) (H : Hp) (C : Addr) (cl : List (Str × Addr)) (fp : List Addr), DTs (X.blk s H scope (compEnvC scope cl C X.env) fp) ifs wt)
    (he : ∀ (s : Shared) (H : Hp) (C : Addr) (cl : List (Str × Addr)) (fp : List Addr), DE (X.blk s H scope (compEnvC scope cl C X.env) fp) W0 elt we)
    (hj : ∀ j ∈ js, j ∈ own'.map (·.2) := by decide) (hs : ∀ x, foldedSetIterable iter X.env x = pure x := by intro _; rfl) :
    DS X W (.Assign [.Name y py] (.ListComp elt [⟨tg, iter, ifs, 0⟩] scope pos) spos) (sSet i (eLc wi g wt we (own'.map (·.2)))) := by
  obtain ⟨ti, tg', tt, te, pi', pg, pt, pe, r⟩ := lc_parts hi hg ht he hj
  refine ⟨_, ps_setLc hc hN hy hyl hsw pi' ok pg pt pe hs, fun σ H Z ρ D DD s w f => ?_⟩
  exact r σ H Z ρ _ _ s w (f.xx σ) _ fun v d ρ' Z' H' q o => set_fit o (lt_of_get hy) f q
end

/-! ### a def keeps its promise -/
/-- what the parameters are worth at the end: the owned as they stand, the others as they came -/
def fin : List D → Env → (List D → Prop) → Prop
  | [], _, R => R []
  | d :: ds, o :: ρ, R => (own d = [] ∧ fin ds ρ fun r => R (d :: r)) ∨ (∃ a d', addr d = some a ∧ o = some d' ∧ addr d' = some a ∧ fin ds ρ fun r => R (d' :: r))
  | _ :: _, [], _ => False
section
variable {K : PySem.W.Frag} {n : Nat} {Z H Z' H' : Hp} {σ : L2.St}
theorem fin_ok : ∀ {ds : List D} {ρ : Env} {R : List D → Prop} {vs : List V} {σ : L2.St}, fin ds ρ R → (∀ (i : Nat) (d : D), ρ[i]? = some (some d) → ∃ v, Rep K Z' H' d v) → Reps K Z H ds vs → Sub Z Z' →
    ∃ ds', R ds' ∧ Reps K Z' H' ds' vs ∧ (owns ds').Sublist (eo ρ)
  | [], ρ, R, vs, σ, h, s, r, z => ⟨[], h, r, List.nil_sublist _⟩
  | d :: ds, [], R, vs, σ, h, s, r, z => h.elim
  | d :: ds, o :: ρ, R, vs, σ, h, s, r, z => by
    obtain ⟨v, vr, e, r1, r2⟩ := r
    have s' : ∀ (i : Nat) (d : D), ρ[i]? = some (some d) → ∃ v, Rep K Z' H' d v := fun i d hd => s (i + 1) d (by simpa using hd)
    rcases h with ⟨hn, h⟩ | ⟨a, d', h1, h2, h3, h⟩
    · obtain ⟨ds', hR, rs, hs⟩ := fin_ok (σ := σ) h s' r2 z
      refine ⟨d :: ds', hR, ⟨v, vr, e, Rep.sh z hn r1, rs⟩, ?_⟩
      show (own d ++ owns ds').Sublist (eo (o :: ρ))
      rw [hn, List.nil_append]
      cases o with
      | none => exact hs
      | some x => exact hs.trans (List.sublist_append_right _ _)
    · obtain ⟨ds', hR, rs, hs⟩ := fin_ok (σ := σ) h s' r2 z
      subst h2
      obtain ⟨u, hu⟩ := s 0 d' rfl
      have e1 := rep_addr h3 hu
      have e2 := rep_addr h1 r1
      refine ⟨d' :: ds', hR, ⟨v, vr, e, by rw [e2, ← e1]; exact hu, rs⟩, ?_⟩
      show (own d' ++ owns ds').Sublist (own d' ++ eo ρ)
      exact List.Sublist.append_left hs _
theorem eo_start (ds : List D) (k : Nat) : eo (ds.map some ++ List.replicate k none) = owns ds := by
  induction ds with
  | nil =>
    induction k with
    | zero => rfl
    | succ k ih => exact ih
  | cons d ds ih => show own d ++ eo (ds.map some ++ List.replicate k none) = own d ++ owns ds; rw [ih]
end
/-- the slots at the entry -/
def entry (N : List Str) (ds : List D) : Env := ds.map some ++ List.replicate (N.length - ds.length) none
theorem st_entry {K : PySem.W.Frag} {N ps : List Str} {Z H : Hp} {ds : List D} {vs : List V} (hs : Sub Z H) (r : Reps K Z H ds vs) (hn : (owns ds).Nodup) (hl : ds.length ≤ N.length) : St K N.length Z H (L2.start N vs) (entry N ds) := by
  have e := r.length
  refine ⟨hs, by simp [L2.start, entry, e], by simp [entry]; omega, fun i d h => ?_, by unfold entry; rw [eo_start]; exact hn⟩
  unfold entry at h
  by_cases hi : i < ds.length
  · rw [List.getElem?_append_left (by simpa using hi), List.getElem?_map] at h
    cases h1 : ds[i]? with
    | none => rw [h1] at h; cases h
    | some x =>
      rw [h1] at h
      have : x = d := Option.some.inj (Option.some.inj h)
      subst this
      obtain ⟨v, h2, h3⟩ := r.get h1
      refine ⟨v, ?_, h3⟩
      unfold L2.start
      rw [List.getElem?_append_left (by rw [List.length_map, e]; exact hi), List.getElem?_map, h2]; rfl
  · rw [List.getElem?_append_right (by simpa using hi), List.getElem?_replicate] at h
    split at h <;> cases h
section
variable {P : Program} {w : World} {K : PySem.W.Frag} {mg : Str → Option Value} {base : Heap}
/-- THE RULE for a def by data: its body's word for any entry, and that the word holds -/
theorem fn_D {x qual : Str} {st : Stmt} {f : Addr} {fd : FuncData} {N ps : List Str} {k : Nat} {dsp : DSp} {ws : Sw} (F : Fun K x qual st f fd) (S : FnScope N ps (defScope st))
    (body : ∀ (cdv : Value) (A : Around) (outer : List PySem.Env) (s : Shared) (H : Hp) (E : XK), Room k (A.deeper (envOfC qual (defScope st) s.heap.objs.size f cdv)) → DSs (cxOf (L2.CX P w) P w K mg base N qual (defScope st) f cdv A outer s H E) (fun cls d _ H => E cls d H) (defBody st) ws)
    (len : ∀ ds Qd Qx, dsp ds Qd Qx → ds.length = ps.length)
    (word : ∀ ds Qd Qx, dsp ds Qd Qx → ws { nx := fun ρ' => fin ds ρ' (Qd .non), rt := fun d ρ' => fin ds ρ' (Qd d), xx := fun x ρ' => fin ds ρ' (Qx x) } (entry N ds)) :
    FnOk P w K mg base (L2.CX P w) (k + 1) f fd ps (lift K dsp) := by
  refine F.okX S (fun vs H Q E h => ?_) fun cdv A outer s H vs Q E hr h => ?_
  · obtain ⟨Z, ds, Qd, Qx, _, reps, _, h, _⟩ := h
    rw [reps.length, len ds Qd Qx h]
  · obtain ⟨Z, ds, Qd, Qx, hsub, reps, nd, h, kn, kx⟩ := h
    obtain ⟨t, p, r⟩ := body cdv A outer s H E hr
    refine ⟨t, p, ?_⟩
    have hl : ds.length ≤ N.length := by
      rw [len ds Qd Qx h]
      have e : N.take ps.length = ps := S.pre
      have e2 := congrArg List.length e
      rw [List.length_take] at e2
      omega
    have ep : eo (entry N ds) = owns ds := eo_start ds _
    refine r (L2.start N vs) H Z (entry N ds) _ _ (st_entry (ps := ps) hsub reps nd hl) (word ds Qd Qx h) ⟨fun σ' ρ' Z' H' q o => ?_, fun σ' ρ' Z' H' q o => q.elim, fun σ' ρ' Z' H' q o => q.elim, fun v d σ' ρ' Z' H' q o => ?_, fun σ' x cls dd ρ' Z' H' q o => ?_⟩
    · obtain ⟨ds', hq, rs, hs⟩ := fin_ok (σ := σ') q (fun i d hd => let ⟨v, _, rv⟩ := o.st.rep i d hd; ⟨v, rv⟩) reps o.step.zz
      have st := o.step
      rw [ep] at st
      exact kn .non .non ds' Z' H' hq o.st.sub rs rfl (o.st.nd.sublist hs) (st.sub fun a ha => hs.subset ha)
    · obtain ⟨ds', hq, rs, hs⟩ := fin_ok (σ := σ') q (fun i d hd => let ⟨v, _, rv⟩ := o.st.rep i d hd; ⟨v, rv⟩) reps o.step.zz
      have st := o.step
      rw [ep] at st
      exact kn v d ds' Z' H' hq o.st.sub rs o.rep (o.nd.sublist (List.Sublist.append_left hs _)) (st.sub fun a ha => (List.Sublist.append_left hs _).subset ha)
    · obtain ⟨ds', hq, rs, hs⟩ := fin_ok (σ := σ') q (fun i d hd => let ⟨v, _, rv⟩ := o.st.rep i d hd; ⟨v, rv⟩) reps o.step.zz
      have st := o.step
      rw [ep] at st
      exact kx x cls dd ds' Z' H' hq o.st.sub rs o.rep (o.st.nd.sublist hs) (st.sub fun a ha => hs.subset ha)
end
end DL
set_option Elab.async false
set_option linter.all false
set_option maxRecDepth 100000
namespace DL
open PySem PySem.Spec PyProof.Rows L2

/-! ### an owned list is rewritten -/
section
variable {K : PySem.W.Frag} {n : Nat} {Z H Z' H' : Hp} {σ : L2.St} {ρ : Env} {p : Path} {a : Addr} {l l' : List D} {vs vs' : List V} {F G : List Addr}
theorem St.relist (s : St K n Z H σ ρ) (hg : getP ρ p = some (.lst (some a) l)) : Z a = none ∧ (∃ vs, H a = some (.lst vs) ∧ Reps K Z H l vs) ∧ a ∉ owns l ∧ a ∉ eo (setP ρ p (lent a)) ∧ (eo ρ).Perm (a :: owns l ++ eo (setP ρ p (lent a))) ∧
    ∀ l' vs', Reps K Z (upd H a (.lst vs')) l' vs' → (a :: owns l' ++ eo (setP ρ p (lent a))).Nodup → St K n Z (upd H a (.lst vs')) σ (setP ρ p (.lst (some a) l')) ∧ (eo (setP ρ p (.lst (some a) l'))).Perm (a :: owns l' ++ eo (setP ρ p (lent a))) := by
  obtain ⟨r, s1, pm, g1, g2⟩ := s.take hg rfl
  obtain ⟨_, za, vs, hv, hr⟩ := r
  have nd := pm.nodup_iff.mp s.nd
  have nd1 : (a :: owns l ++ eo (setP ρ p (lent a))).Nodup := nd
  have na : a ∉ owns l ++ eo (setP ρ p (lent a)) := (List.nodup_cons.mp nd1).1
  have na1 : a ∉ owns l := fun h => na (List.mem_append_left _ h)
  have na2 : a ∉ eo (setP ρ p (lent a)) := fun h => na (List.mem_append_right _ h)
  refine ⟨za, ⟨vs, hv, hr⟩, na1, na2, pm, fun l' vs' rs ndn => ?_⟩
  have sub' : Sub Z (upd H a (.lst vs')) := fun b u e => by
    by_cases hb : b = a
    · subst hb; rw [za] at e; cases e
    · rw [upd_ne hb]; exact s.sub b u e
  have s2 : St K n Z (upd H a (.lst vs')) σ (setP ρ p (lent a)) := s1.mono sub' (Sub.refl _) (fun b hb o e => by rw [upd_ne (show b ≠ a from fun z => na2 (by subst z; exact hb))]; exact e) fun b hb => (s1.ownd b hb).1
  have s3 := s2.put (c := .lst (some a) l') g1 ⟨rfl, za, vs', upd_same, rs⟩ ndn
  rw [g2] at s3
  exact s3
theorem step_upd {o : HO} (ha : a ∈ F) (hG : ∀ b ∈ G, b ∈ F ∨ H b = none) : Step Z H F Z (upd H a o) G :=
  ⟨Sub.refl Z, fun b u e nb => by rw [upd_ne (show b ≠ a from fun z => nb (by rw [z]; exact ha))]; exact e, hG, fun b z z' => absurd z z'⟩
theorem Reps.upd_out {o : HO} (r : Reps K Z H l vs) (na : a ∉ owns l) : Reps K Z (upd H a o) l vs :=
  Reps.mono (Sub.refl Z) l vs (fun b hb u e => by rw [upd_ne (show b ≠ a from fun z => na (by rw [← z]; exact hb))]; exact e) (fun b hb => (Reps.ownd l vs r b hb).1) r
theorem Rep.upd_out {o : HO} {d : D} {v : V} (r : Rep K Z H d v) (na : a ∉ own d) : Rep K Z (upd H a o) d v :=
  Rep.mono (Sub.refl Z) d v (fun b hb u e => by rw [upd_ne (show b ≠ a from fun z => na (by rw [← z]; exact hb))]; exact e) (fun b hb => (Rep.ownd d v r b hb).1) r
end

section
variable {X : Cx} {W : WX} {o e i : Expr} {es : List Expr} {pos apos cpos tpos : Pos} {wl : Lw} {wp wq : Pw} {we wa wb : Ew} {ws : Aw}
/-- xs.append(e) -/
def eApp (wl : Lw) (we : Ew) : Ew := fun ρ Q Qx => wl ρ fun p d => match d with
  | .lst (some a) _ => we ρ (fun y ρ1 => match getP ρ1 p with
    | some (.lst (some b) l) => b = a ∧ l.length < sizeLine ∧ Q .non (setP ρ1 p (.lst (some b) (l ++ [y])))
    | _ => False) Qx
  | _ => False
theorem owns_one (y : D) : owns [y] = own y := by show own y ++ [] = own y; rw [List.append_nil]
theorem de_append (ho : DPath X o wl) (he : DE X W e we) (hbase : attributeBase o "append" X.env (eval o X.env) = eval o X.env := by rfl)
    (hfew : ((backTo cpos (starEach (e :: []) X.env)).all (fun x => !x.1) && (backToKw cpos (keywordEach [] X.env)).all (fun x => x.1.isSome) && decide ((e :: []).length + ([] : List Keyword).length + (if ([] : List Keyword).isEmpty then 0 else 1) < 30)) = true := by rfl)
    (hline : (apos.endLine == cpos.line) = true := by rfl) (hs : starEach (e :: []) X.env = (false, eval e X.env) :: starEach [] X.env := by rfl) (hplain : (backTo cpos (starEach [] X.env)).any (·.1) = false := by rfl) :
    DE X W (.Call (.Attribute o "append" apos) [e] [] cpos) (eApp wl we) := by
  obtain ⟨to, po', ro⟩ := ho
  obtain ⟨te, pe', re⟩ := he
  refine ⟨_, pe_bm PySem.F.plainAttrs_list PySem.F.slot_list_append PySem.F.type_list_append mt_append po' (pa_cons pe' pa_nil hs) hbase hfew hline hs hplain, fun σ H Z ρ Q Qx s w fx QQ q => ?_⟩
  refine ro σ H Z ρ _ s w _ fun v p d wd hg rd => ?_
  cases d with
  | lst m l0 => cases m with
    | none => exact wd.elim
    | some a =>
      obtain ⟨ev, za, vs0, hv0, _⟩ := rd
      refine ⟨by rw [ev]; exact .inl ⟨rfl, vs0, SqL.of hv0⟩, ?_⟩
      refine re σ H Z ρ _ Qx s wd fx _ fun u y ρ1 Z1 H1 w1 o1 => ?_
      split at w1
      · rename_i b l hg1
        obtain ⟨hba, hl, w1⟩ := w1
        subst hba
        obtain ⟨za1, ⟨vs, hv, hr⟩, na1, na2, pm, re'⟩ := o1.st.relist hg1
        have ndo := List.nodup_append.mp o1.nd
        have hbin : b ∈ eo ρ1 := pm.mem_iff.mpr (List.mem_cons_self ..)
        have nby : b ∉ own y := fun z => ndo.2.2 b z b hbin rfl
        have nd2 : (b :: owns (l ++ [y]) ++ eo (setP ρ1 p (lent b))).Nodup := by
          rw [owns_append, owns_one]
          have nn := pm.nodup_iff.mp o1.st.nd
          have : (own y ++ (b :: owns l ++ eo (setP ρ1 p (lent b)))).Nodup := List.nodup_append.mpr ⟨ndo.1, nn, fun c hc c' hc' e => ndo.2.2 c hc c (pm.mem_iff.mpr (e ▸ hc')) rfl⟩
          have pp : (own y ++ (b :: owns l ++ eo (setP ρ1 p (lent b)))).Perm (b :: (owns l ++ own y) ++ eo (setP ρ1 p (lent b))) := by
            show (own y ++ (b :: (owns l ++ eo (setP ρ1 p (lent b))))).Perm (b :: ((owns l ++ own y) ++ eo (setP ρ1 p (lent b))))
            refine List.perm_middle.trans (List.Perm.cons b ?_)
            rw [← List.append_assoc]
            exact List.perm_append_comm.append_right _
          exact pp.nodup_iff.mp this
        obtain ⟨s2, pm2⟩ := re' (l ++ [y]) (vs ++ [u]) ((hr.upd_out na1).append (Reps.one (o1.rep.upd_out nby))) nd2
        refine ⟨b, vs, u, ev, rfl, hv, by rw [hr.length]; exact hl, ?_⟩
        refine q .non .non _ Z1 _ w1 ⟨s2, rfl, s2.nd, ?_⟩
        refine o1.step.trans (step_upd (List.mem_append_right _ hbin) fun c hc => .inl ?_)
        have hc' : c ∈ eo (setP ρ1 p (.lst (some b) (l ++ [y]))) := hc
        have hm := pm2.mem_iff.mp hc'
        rw [owns_append, owns_one] at hm
        simp only [List.cons_append, List.mem_cons, List.mem_append] at hm
        rcases hm with z | (z | z) | z
        · exact List.mem_append_right _ (by rw [z]; exact hbin)
        · exact List.mem_append_right _ (pm.mem_iff.mpr (List.mem_append_left _ (List.mem_cons_of_mem _ z)))
        · exact List.mem_append_left _ z
        · exact List.mem_append_right _ (pm.mem_iff.mpr (List.mem_append_right _ z))
      · exact w1.elim
  | _ => exact wd.elim
/-- o[i] = e of an owned list -/
def sSetIx (we : Ew) (wl : Lw) (wp : Pw) : Sw := fun D ρ => we ρ (fun y ρ1 => wl ρ1 fun p d => wp ρ1 fun j => match d, j with
  | .lst (some a) l, .int i => (match ixN l.length i with
    | some k => D.nx (setP ρ1 p (.lst (some a) (l.set k y)))
    | none => False)
  | _, _ => False) D.xx
theorem owns_set_mem {l : List D} {k : Nat} {y : D} {a : Addr} (h : a ∈ owns (l.set k y)) : a ∈ owns l ∨ a ∈ own y := by
  obtain ⟨d, hd, ha⟩ := owns_mem.mp h
  rcases List.mem_or_eq_of_mem_set hd with z | z
  · exact .inl (owns_mem.mpr ⟨d, z, ha⟩)
  · exact .inr (z ▸ ha)
theorem owns_set_nodup {l : List D} {k : Nat} {y : D} {R : List Addr} (hk : k < l.length) (h : (own y ++ (owns l ++ R)).Nodup) : (owns (l.set k y) ++ R).Nodup := by
  have hc : l[k]? = some l[k] := List.getElem?_eq_getElem hk
  have o := owns_set (x := .hole) hc rfl
  have p1 : (own y ++ (owns l ++ R)).Perm (own l[k] ++ (own y ++ owns (l.set k .hole) ++ R)) := by
    refine ((o.1.append_right R).append_left (own y)).trans ?_
    simp only [List.append_assoc]
    rw [← List.append_assoc, ← List.append_assoc (own l[k])]
    exact List.perm_append_comm.append_right _
  have n2 := (List.nodup_append.mp (p1.nodup_iff.mp h)).2.1
  exact ((o.2 y).append_right R).nodup_iff.mpr n2
theorem ds_setix (he : DE X W e we) (ho : DPath X o wl) (hi : DP X i wp) (hs : swapsWithSole [.Subscript o i tpos] e pos.line X.env = pure false := by rfl) (hw : swappedStores [.Subscript o i tpos] e X.env = pure none := by rfl) (h1 : (assignEach [.Subscript o i tpos] X.env).map (·.2) = [assign (.Subscript o i tpos) X.env] := by rfl)
    (hpg : ∀ {to ti : TE} {t : TSet}, PE X o to → PE X i ti → PSet X t → PG X (.Subscript o i tpos) (gSub to ti t)) : DS X W (.Assign [.Subscript o i tpos] e pos) (sSetIx we wl wp) := by
  obtain ⟨te, pe', re⟩ := he
  obtain ⟨to, po', ro⟩ := ho
  obtain ⟨ti, pi', ri⟩ := hi
  refine ⟨_, ps_asg pe' (hpg po' pi' set_list) hs hw h1, fun σ H Z ρ D DD s w f => ?_⟩
  refine re σ H Z ρ _ _ s w (f.xx σ) _ fun u y ρ1 Z1 H1 w1 o1 => ?_
  refine ro σ H1 Z1 ρ1 _ o1.st w1 _ fun v p d wd hg rd => ?_
  refine ri σ H1 Z1 ρ1 _ o1.st wd _ fun x j wj rj => ?_
  cases d with
  | lst m l => cases m with
    | none => cases j <;> exact wj.elim
    | some a => cases j with
      | int ii =>
        cases hk : ixN l.length ii with
        | none => simp only [hk] at wj
        | some k =>
          simp only [hk] at wj
          obtain ⟨ev, _⟩ := rd
          obtain ⟨za1, ⟨vs, hv, hr⟩, na1, na2, pm, re'⟩ := o1.st.relist hg
          have hkl : k < l.length := (ixN_seq hk).2.1
          have ndo := List.nodup_append.mp o1.nd
          have hbin : a ∈ eo ρ1 := pm.mem_iff.mpr (List.mem_cons_self ..)
          have nby : a ∉ own y := fun z => ndo.2.2 a z a hbin rfl
          have nn := pm.nodup_iff.mp o1.st.nd
          have nn' : (a :: (owns l ++ eo (setP ρ1 p (lent a)))).Nodup := nn
          have nd2 : (a :: owns (l.set k y) ++ eo (setP ρ1 p (lent a))).Nodup := by
            show (a :: (owns (l.set k y) ++ eo (setP ρ1 p (lent a)))).Nodup
            refine List.nodup_cons.mpr ⟨fun hc => ?_, owns_set_nodup hkl ?_⟩
            · rcases List.mem_append.mp hc with z | z
              · rcases owns_set_mem z with z | z
                · exact na1 z
                · exact nby z
              · exact na2 z
            · exact List.nodup_append.mpr ⟨ndo.1, (List.nodup_cons.mp nn').2, fun c hc c' hc' e => ndo.2.2 c hc c (pm.mem_iff.mpr (e ▸ List.mem_cons_of_mem _ hc')) rfl⟩
          obtain ⟨s2, pm2⟩ := re' (l.set k y) (vs.set k u) ((hr.upd_out na1).set (o1.rep.upd_out nby)) nd2
          refine ⟨a, vs, ii, k, ev, rj, hv, by rw [hr.length]; exact hk, ?_⟩
          refine f.nx σ _ Z1 _ wj ⟨s2, o1.step.trans (step_upd (List.mem_append_right _ hbin) fun c hc => .inl ?_)⟩
          have hm := pm2.mem_iff.mp hc
          simp only [List.cons_append, List.mem_cons, List.mem_append] at hm
          rcases hm with z | z | z
          · exact List.mem_append_right _ (by rw [z]; exact hbin)
          · rcases owns_set_mem z with z | z
            · exact List.mem_append_right _ (pm.mem_iff.mpr (List.mem_append_left _ (List.mem_cons_of_mem _ z)))
            · exact List.mem_append_left _ z
          · exact List.mem_append_right _ (pm.mem_iff.mpr (List.mem_append_right _ z))
      | _ => exact wj.elim
  | _ => cases j <;> exact wj.elim

/-! ### calls of what is built in, by data -/
/-- a call that lays nothing: scalars out -/
def DCall (X : Cx) (f : Value) (rd : List D → (D → Prop) → Prop) : Prop :=
  ∃ r, CallR X f r ∧ ∀ (Z H : Hp) (ds : List D) (vs : List V) (Q : D → Prop), Sub Z H → Reps X.K Z H ds vs → rd ds Q → ∀ QQ : VK, (∀ w d, Q d → Rep X.K Z H d w → own d = [] → QQ w H) → r vs H QQ
def eCallB (rd : List D → (D → Prop) → Prop) (ws : Aw) : Ew := fun ρ Q Qx => ws ρ (fun as ρ1 => match valsOf as with
  | some ds => owns ds = [] ∧ rd ds fun z => Q z ρ1
  | none => False) Qx
theorem de_callB {x : Str} {id : String} {p : Pos} {rd : List D → (D → Prop) → Prop} (hc : DCall X (.builtin id) rd) (hg : Gl X x) (hm : X.mg x = none) (hv : bootBuiltins x = some (.builtin id)) (ha : DA X W (e :: es) ws) (hn : x ≠ "__name__" := by decide) (hdb : (x == ("__debug__" : Str)) = false := by decide)
    (he : starEach (e :: es) X.env = (false, eval e X.env) :: starEach es X.env := by rfl) (hpl : (backTo pos (starEach es X.env)).any (·.1) = false := by rfl) : DE X W (.Call (.Name x p) (e :: es) [] pos) (eCallB rd ws) := by
  obtain ⟨r, hr, hd⟩ := hc
  obtain ⟨t, pa, ra⟩ := ha
  refine ⟨_, pe_callB hr hg hm hv pa hn hdb he hpl, fun σ H Z ρ Q Qx s w fx QQ q => ?_⟩
  refine ra σ H Z ρ _ Qx s w fx _ fun vs as ρ1 Z1 H1 wx o => ?_
  cases h : valsOf as with
  | none => simp only [h] at wx
  | some ds =>
    simp only [h] at wx
    obtain ⟨rs, ow⟩ := valsOf_rep h o.rep
    have st : Step Z H (eo ρ) Z1 H1 (eo ρ1) := o.step.sub fun a ha => List.mem_append_right _ ha
    exact hd Z1 H1 ds vs _ o.st.sub rs wx.2 QQ fun z d hq hr hn => q z d ρ1 Z1 H1 hq ⟨o.st, hr, nd_of_nil hn o.st.nd, by rw [hn]; exact st⟩
theorem de_callTy {x : Str} {T : String} {p : Pos} {rd : List D → (D → Prop) → Prop} (hc : DCall X (.type T) rd) (hg : Gl X x) (hm : X.mg x = none) (hv : bootBuiltins x = some (.type T)) (ha : DA X W (e :: es) ws) (hn : x ≠ "__name__" := by decide) (hdb : (x == ("__debug__" : Str)) = false := by decide)
    (he : starEach (e :: es) X.env = (false, eval e X.env) :: starEach es X.env := by rfl) (hpl : (backTo pos (starEach es X.env)).any (·.1) = false := by rfl) : DE X W (.Call (.Name x p) (e :: es) [] pos) (eCallB rd ws) := by
  obtain ⟨r, hr, hd⟩ := hc
  obtain ⟨t, pa, ra⟩ := ha
  refine ⟨_, pe_callTy hr hg hm hv pa hn hdb he hpl, fun σ H Z ρ Q Qx s w fx QQ q => ?_⟩
  refine ra σ H Z ρ _ Qx s w fx _ fun vs as ρ1 Z1 H1 wx o => ?_
  cases h : valsOf as with
  | none => simp only [h] at wx
  | some ds =>
    simp only [h] at wx
    obtain ⟨rs, ow⟩ := valsOf_rep h o.rep
    have st : Step Z H (eo ρ) Z1 H1 (eo ρ1) := o.step.sub fun a ha => List.mem_append_right _ ha
    exact hd Z1 H1 ds vs _ o.st.sub rs wx.2 QQ fun z d hq hr hn => q z d ρ1 Z1 H1 hq ⟨o.st, hr, nd_of_nil hn o.st.nd, by rw [hn]; exact st⟩
/-- int(i), int(bool) -/
def rdInt : List D → (D → Prop) → Prop := fun ds Q => match ds with
  | [.int i] => Q (.int i)
  | [.bl k] => Q (.int (if k then 1 else 0))
  | _ => False
theorem dc_int : DCall X (.type "int") rdInt := by
  refine ⟨_, call_int1, fun Z H ds vs Q hs rs w QQ q => ?_⟩
  unfold rdInt at w
  split at w
  · rename_i i
    obtain ⟨v, vr, e, r1, r2⟩ := rs
    exact .inl ⟨i, by rw [e, show v = .int i from r1, show vr = [] from r2], q _ _ w rfl rfl⟩
  · rename_i k
    obtain ⟨v, vr, e, r1, r2⟩ := rs
    exact .inr ⟨k, by rw [e, show v = .bl k from r1, show vr = [] from r2], q _ _ w rfl rfl⟩
  · exact w.elim
def rdI2 (g : Int → Int → Int) : List D → (D → Prop) → Prop := fun ds Q => match ds with
  | [.int i, .int j] => Q (.int (g i j))
  | _ => False
theorem dc_max2 (hc : X.calm = true) : DCall X (.builtin "max") (rdI2 fun i j => if j > i then j else i) := by
  refine ⟨_, call_max2 hc, fun Z H ds vs Q hs rs w QQ q => ?_⟩
  unfold rdI2 at w
  split at w
  · rename_i i j
    obtain ⟨v, vr, e, r1, v2, vr2, e2, r2, r3⟩ := rs
    exact ⟨i, j, by rw [e, show v = .int i from r1, e2, show v2 = .int j from r2, show vr2 = [] from r3], q _ _ w rfl rfl⟩
  · exact w.elim
theorem dc_min2 (hc : X.calm = true) : DCall X (.builtin "min") (rdI2 fun i j => if j < i then j else i) := by
  refine ⟨_, call_min2 hc, fun Z H ds vs Q hs rs w QQ q => ?_⟩
  unfold rdI2 at w
  split at w
  · rename_i i j
    obtain ⟨v, vr, e, r1, v2, vr2, e2, r2, r3⟩ := rs
    exact ⟨i, j, by rw [e, show v = .int i from r1, e2, show v2 = .int j from r2, show vr2 = [] from r3], q _ _ w rfl rfl⟩
  · exact w.elim
def rdAbs : List D → (D → Prop) → Prop := fun ds Q => match ds with
  | [.int i] => Q (.int (if i < 0 then -i else i))
  | _ => False
theorem dc_abs : DCall X (.builtin "abs") rdAbs := by
  refine ⟨_, call_abs, fun Z H ds vs Q hs rs w QQ q => ?_⟩
  unfold rdAbs at w
  split at w
  · rename_i i
    obtain ⟨v, vr, e, r1, r2⟩ := rs
    exact ⟨i, by rw [e, show v = .int i from r1, show vr = [] from r2], q _ _ w rfl rfl⟩
  · exact w.elim
/-- lists of ints, of bools -/
def intsOf : List D → Option (List Int)
  | [] => some []
  | .int i :: r => (intsOf r).map (i :: ·)
  | _ :: _ => none
def blsOf : List D → Option (List Bool)
  | [] => some []
  | .bl i :: r => (blsOf r).map (i :: ·)
  | _ :: _ => none
theorem intsOf_map (ns : List Int) : intsOf (ns.map D.int) = some ns := by
  induction ns with
  | nil => rfl
  | cons n ns ih => show (intsOf (ns.map D.int)).map (n :: ·) = _; rw [ih]; rfl
theorem blsOf_map (ns : List Bool) : blsOf (ns.map D.bl) = some ns := by
  induction ns with
  | nil => rfl
  | cons n ns ih => show (blsOf (ns.map D.bl)).map (n :: ·) = _; rw [ih]; rfl
theorem intsOf_rep {K : PySem.W.Frag} {Z H : Hp} : ∀ {l : List D} {ns : List Int} {vs : List V}, intsOf l = some ns → Reps K Z H l vs → vs = ns.map V.int
  | [], ns, vs, h, r => by cases h; exact r
  | .int i :: l, ns, vs, h, r => by
    obtain ⟨v, vr, e, r1, r2⟩ := r
    unfold intsOf at h
    cases h1 : intsOf l with
    | none => rw [h1] at h; cases h
    | some ms =>
      rw [h1] at h; cases h
      rw [e, show v = .int i from r1, intsOf_rep h1 r2]; rfl
  | .hole :: l, ns, vs, h, r => by cases h
  | .non :: l, ns, vs, h, r => by cases h
  | .bl _ :: l, ns, vs, h, r => by cases h
  | .str _ :: l, ns, vs, h, r => by cases h
  | .cv _ :: l, ns, vs, h, r => by cases h
  | .tup _ :: l, ns, vs, h, r => by cases h
  | .lsk _ :: l, ns, vs, h, r => by cases h
  | .lst _ _ :: l, ns, vs, h, r => by cases h
  | .dct _ _ _ :: l, ns, vs, h, r => by cases h
  | .ins _ _ _ _ :: l, ns, vs, h, r => by cases h
theorem blsOf_rep {K : PySem.W.Frag} {Z H : Hp} : ∀ {l : List D} {ns : List Bool} {vs : List V}, blsOf l = some ns → Reps K Z H l vs → vs = ns.map V.bl
  | [], ns, vs, h, r => by cases h; exact r
  | .bl i :: l, ns, vs, h, r => by
    obtain ⟨v, vr, e, r1, r2⟩ := r
    unfold blsOf at h
    cases h1 : blsOf l with
    | none => rw [h1] at h; cases h
    | some ms =>
      rw [h1] at h; cases h
      rw [e, show v = .bl i from r1, blsOf_rep h1 r2]; rfl
  | .hole :: l, ns, vs, h, r => by cases h
  | .non :: l, ns, vs, h, r => by cases h
  | .int _ :: l, ns, vs, h, r => by cases h
  | .str _ :: l, ns, vs, h, r => by cases h
  | .cv _ :: l, ns, vs, h, r => by cases h
  | .tup _ :: l, ns, vs, h, r => by cases h
  | .lsk _ :: l, ns, vs, h, r => by cases h
  | .lst _ _ :: l, ns, vs, h, r => by cases h
  | .dct _ _ _ :: l, ns, vs, h, r => by cases h
  | .ins _ _ _ _ :: l, ns, vs, h, r => by cases h
def rdSum : List D → (D → Prop) → Prop := fun ds Q => match ds with
  | [.lst none l] => (match intsOf l with
    | some ns => Q (.int ns.sum)
    | none => False)
  | _ => False
theorem dc_sum (hc : X.calm = true) : DCall X (.builtin "sum") rdSum := by
  refine ⟨_, cr_sum hc, fun Z H ds vs Q hs rs w QQ q => ?_⟩
  unfold rdSum at w
  split at w
  · rename_i l
    cases h : intsOf l with
    | none => simp only [h] at w
    | some ns =>
      simp only [h] at w
      obtain ⟨v, vr, e, r1, r2⟩ := rs
      obtain ⟨_, a, ws, ev, hz, hr⟩ := r1
      exact ⟨a, ns, by rw [e, ev, show vr = [] from r2], by rw [← intsOf_rep h hr]; exact SqL.of (hs a _ hz), q _ _ w rfl rfl⟩
  · exact w.elim
def rdAll : List D → (D → Prop) → Prop := fun ds Q => match ds with
  | [.lst none l] => (match blsOf l with
    | some ns => Q (.bl (ns.all id))
    | none => False)
  | _ => False
def rdAny : List D → (D → Prop) → Prop := fun ds Q => match ds with
  | [.lst none l] => (match blsOf l with
    | some ns => Q (.bl (ns.any id))
    | none => False)
  | _ => False
theorem dc_all (hc : X.calm = true) : DCall X (.builtin "all") rdAll := by
  refine ⟨_, cr_all hc, fun Z H ds vs Q hs rs w QQ q => ?_⟩
  unfold rdAll at w
  split at w
  · rename_i l
    cases h : blsOf l with
    | none => simp only [h] at w
    | some ns =>
      simp only [h] at w
      obtain ⟨v, vr, e, r1, r2⟩ := rs
      obtain ⟨_, a, ws, ev, hz, hr⟩ := r1
      exact ⟨a, ns, by rw [e, ev, show vr = [] from r2], by rw [← blsOf_rep h hr]; exact SqL.of (hs a _ hz), q _ _ w rfl rfl⟩
  · exact w.elim
theorem dc_any (hc : X.calm = true) : DCall X (.builtin "any") rdAny := by
  refine ⟨_, cr_any hc, fun Z H ds vs Q hs rs w QQ q => ?_⟩
  unfold rdAny at w
  split at w
  · rename_i l
    cases h : blsOf l with
    | none => simp only [h] at w
    | some ns =>
      simp only [h] at w
      obtain ⟨v, vr, e, r1, r2⟩ := rs
      obtain ⟨_, a, ws, ev, hz, hr⟩ := r1
      exact ⟨a, ns, by rw [e, ev, show vr = [] from r2], by rw [← blsOf_rep h hr]; exact SqL.of (hs a _ hz), q _ _ w rfl rfl⟩
  · exact w.elim
/-- max, min of a list of ints -/
def rdExt (le : Int → Int → Prop) : List D → (D → Prop) → Prop := fun ds Q => match ds with
  | [.lst none l] => (match intsOf l with
    | some ns => 0 < ns.length ∧ ∀ m, m ∈ ns → (∀ y, y ∈ ns → le y m) → Q (.int m)
    | none => False)
  | _ => False
theorem dc_max (hc : X.calm = true) : DCall X (.builtin "max") (rdExt fun y m => y ≤ m) := by
  refine ⟨_, cr_max hc, fun Z H ds vs Q hs rs w QQ q => ?_⟩
  unfold rdExt at w
  split at w
  · rename_i l
    cases h : intsOf l with
    | none => simp only [h] at w
    | some ns =>
      simp only [h] at w
      obtain ⟨v, vr, e, r1, r2⟩ := rs
      obtain ⟨_, a, ws, ev, hz, hr⟩ := r1
      exact ⟨a, ns, by rw [e, ev, show vr = [] from r2], by rw [← intsOf_rep h hr]; exact SqL.of (hs a _ hz), w.1, fun m h1 h2 => q _ _ (w.2 m h1 h2) rfl rfl⟩
  · exact w.elim
theorem dc_min (hc : X.calm = true) : DCall X (.builtin "min") (rdExt fun y m => m ≤ y) := by
  refine ⟨_, cr_min hc, fun Z H ds vs Q hs rs w QQ q => ?_⟩
  unfold rdExt at w
  split at w
  · rename_i l
    cases h : intsOf l with
    | none => simp only [h] at w
    | some ns =>
      simp only [h] at w
      obtain ⟨v, vr, e, r1, r2⟩ := rs
      obtain ⟨_, a, ws, ev, hz, hr⟩ := r1
      exact ⟨a, ns, by rw [e, ev, show vr = [] from r2], by rw [← intsOf_rep h hr]; exact SqL.of (hs a _ hz), w.1, fun m h1 h2 => q _ _ (w.2 m h1 h2) rfl rfl⟩
  · exact w.elim
/-- isinstance(x, T), T built in -/
def tyD : D → Option String
  | .non => some "NoneType"
  | .bl _ => some "bool"
  | .int _ => some "int"
  | .str _ => some "str"
  | .tup _ => some "tuple"
  | .lst _ _ => some "list"
  | .dct _ _ _ => some "dict"
  | .lsk _ => some "list"
  | _ => none
def rdIsi : List D → (D → Prop) → Prop := fun ds Q => match ds with
  | [d, .cv (.ty T)] => (match tyD d with
    | some t => (match kitB t T with
      | some b => Q (.bl b)
      | none => False)
    | none => False)
  | _ => False
theorem tyD_rep {K : PySem.W.Frag} {Z H : Hp} {d : D} {t : String} {v : V} (s : Sub Z H) (h : tyD d = some t) (r : Rep K Z H d v) : TyX K H v (.type t) := by
  cases d with
  | non => cases h; rw [show v = .non from r]; exact .base .non
  | bl b => cases h; rw [show v = .bl b from r]; exact .base (.bl b)
  | int b => cases h; rw [show v = .int b from r]; exact .base (.int b)
  | str b => cases h; rw [show v = .str b from r]; exact .base (.str b)
  | tup l =>
    cases h
    obtain ⟨_, a, vs, e, hs, _⟩ := r
    rw [e]
    rcases sub_t s hs with (h | ⟨o, h⟩) | ⟨o, its, n, hk, hc, _⟩
    · exact .base (.tup h)
    · exact .fTuple h
    · exact .kTuple hk hc
  | lsk l =>
    cases h
    obtain ⟨_, a, vs, e, hs, _⟩ := r
    rw [e]
    rcases sub_l s hs with (h | ⟨o, h⟩) | ⟨o, its, n, hk, hc, _⟩
    · exact .base (.lst h)
    · exact .base (.frz h)
    · exact .kList hk hc
  | lst m l =>
    cases h
    obtain ⟨a, vs, e, hv, _⟩ := lst_read s r
    rw [e]; exact .base (.lst hv)
  | dct m ks l =>
    cases h
    cases m with
    | none => obtain ⟨_, a, kvs, e, hz, _⟩ := r; rw [e]; exact .base (.dK (s a _ hz))
    | some a => obtain ⟨e, _, kvs, hz, _⟩ := r; rw [e]; exact .base (.dK hz)
  | _ => cases h
theorem dc_isi : DCall X (.builtin "isinstance") rdIsi := by
  refine ⟨_, call_isi, fun Z H ds vs Q hs rs w QQ q => ?_⟩
  unfold rdIsi at w
  split at w
  · rename_i d T
    cases h : tyD d with
    | none => simp only [h] at w
    | some t =>
      simp only [h] at w
      cases h2 : kitB t T with
      | none => simp only [h2] at w
      | some b =>
        simp only [h2] at w
        obtain ⟨v, vr, e, r1, v2, vr2, e2, r2, r3⟩ := rs
        exact ⟨v, .ty T, .type t, .type T, b, by rw [e, e2, show v2 = .ty T from r2, show vr2 = [] from r3], .ty T, tyD_rep hs h r1, kit_ty h2, q _ _ w rfl rfl⟩
  · exact w.elim

/-! ### what lays a new list, a new tuple -/
/-- list(x), tuple(x), of lists and tuples -/
def eListOf (wp : Pw) : Ew := fun ρ Q _ => wp ρ fun d => match d with
  | .tup l => ∀ p, Q (.lst (some p) l) ρ
  | .lst none l => ∀ p, Q (.lst (some p) l) ρ
  | .lsk l => ∀ p, Q (.lst (some p) l) ρ
  | .lst (some _) l => owns l = [] ∧ ∀ p, Q (.lst (some p) l) ρ
  | _ => False
theorem out_new {K : PySem.W.Frag} {n : Nat} {Z H : Hp} {σ : L2.St} {ρ : Env} {p : Addr} {l : List D} {vs : List V} (s : St K n Z H σ ρ) (hp : H p = none) (r : Reps K Z H l vs) (hn : owns l = []) : Out K n Z H (eo ρ) σ Z (upd H p (.lst vs)) (.ref p) (.lst (some p) l) ρ := by
  have zp : Z p = none := by
    cases e : Z p with
    | none => rfl
    | some u => rw [s.sub p u e] at hp; cases hp
  refine ⟨s.grow hp, ⟨rfl, zp, vs, upd_same, r.sh (Sub.refl Z) hn⟩, ?_, ?_⟩
  · show (p :: owns l ++ eo ρ).Nodup
    rw [hn]
    exact List.nodup_cons.mpr ⟨fun h => (s.ownd p h).2 hp, s.nd⟩
  · show Step Z H (eo ρ) Z _ (p :: owns l ++ eo ρ)
    rw [hn]
    exact step_new hp
theorem out_tup {K : PySem.W.Frag} {n : Nat} {Z H : Hp} {σ : L2.St} {ρ : Env} {p : Addr} {l : List D} {vs : List V} (s : St K n Z H σ ρ) (hp : H p = none) (r : Reps K Z H l vs) (hn : owns l = []) : Out K n Z H (eo ρ) σ (upd Z p (.tup vs)) (upd H p (.tup vs)) (.ref p) (.tup l) ρ := by
  have zp : Z p = none := by
    cases e : Z p with
    | none => rfl
    | some u => rw [s.sub p u e] at hp; cases hp
  have s' := s.known (o := .tup vs) hp
  refine ⟨s', ⟨hn, p, vs, rfl, SqT.of upd_same, r.sh (upd_sub zp) hn⟩, nd_of_nil hn s'.nd, ?_⟩
  show Step Z H (eo ρ) _ _ (owns l ++ eo ρ)
  rw [hn]
  exact step_known s.sub hp
/-- the items of a list or a tuple that is read -/
def seqD : D → Option (List D)
  | .tup l => some l
  | .lst _ l => some l
  | .lsk l => some l
  | _ => none
theorem seqD_rep {K : PySem.W.Frag} {Z H : Hp} {d : D} {l : List D} {v : V} (s : Sub Z H) (h : seqD d = some l) (r : Rep K Z H d v) : ∃ a vs, v = .ref a ∧ (SqL K H a vs ∨ SqT K H a vs) ∧ Reps K Z H l vs := by
  cases d with
  | tup l' => cases h; obtain ⟨_, a, vs, e, hs, hr⟩ := r; exact ⟨a, vs, e, .inr (sub_t s hs), hr⟩
  | lsk l' => cases h; obtain ⟨_, a, vs, e, hs, hr⟩ := r; exact ⟨a, vs, e, .inl (sub_l s hs), hr⟩
  | lst m l' => cases h; obtain ⟨a, vs, e, hv, hr⟩ := lst_read s r; exact ⟨a, vs, e, .inl (SqL.of hv), hr⟩
  | _ => cases h
def eListP (wp : Pw) : Ew := fun ρ Q _ => wp ρ fun d => match seqD d with
  | some l => owns l = [] ∧ ∀ p, Q (.lst (some p) l) ρ
  | none => False
theorem de_listP {p : Pos} (ha : DP X e wp) (hg : Gl X "list") (hm : X.mg "list" = none) (hv : bootBuiltins "list" = some (.type "list")) (he : starEach [e] X.env = (false, eval e X.env) :: starEach [] X.env := by rfl) (hpl : (backTo pos (starEach [] X.env)).any (·.1) = false := by rfl) :
    DE X W (.Call (.Name "list" p) [e] [] pos) (eListP wp) := by
  obtain ⟨t, pa, ra⟩ := ha
  refine ⟨_, pe_callTy call_list_of hg hm hv (pa_cons pa pa_nil he) (by decide) (by decide) he hpl, fun σ H Z ρ Q Qx s w fx QQ q => ?_⟩
  refine ra σ H Z ρ _ s w _ fun v d wd rd => ?_
  cases h : seqD d with
  | none => simp only [h] at wd
  | some l =>
    simp only [h] at wd
    obtain ⟨a, vs, e, hs, hr⟩ := seqD_rep s.sub h rd
    exact ⟨a, vs, by rw [e], hs, fun p hp => q _ _ ρ Z _ (wd.2 p) (out_new s hp hr wd.1)⟩
def eTupP (wp : Pw) : Ew := fun ρ Q _ => wp ρ fun d => match seqD d with
  | some l => owns l = [] ∧ Q (.tup l) ρ
  | none => False
theorem de_tupP {p : Pos} (ha : DP X e wp) (hg : Gl X "tuple") (hm : X.mg "tuple" = none) (hv : bootBuiltins "tuple" = some (.type "tuple")) (he : starEach [e] X.env = (false, eval e X.env) :: starEach [] X.env := by rfl) (hpl : (backTo pos (starEach [] X.env)).any (·.1) = false := by rfl) :
    DE X W (.Call (.Name "tuple" p) [e] [] pos) (eTupP wp) := by
  obtain ⟨t, pa, ra⟩ := ha
  refine ⟨_, pe_callTy call_tuple_of hg hm hv (pa_cons pa pa_nil he) (by decide) (by decide) he hpl, fun σ H Z ρ Q Qx s w fx QQ q => ?_⟩
  refine ra σ H Z ρ _ s w _ fun v d wd rd => ?_
  cases d with
  | tup l =>
    obtain ⟨_, a, vs, e, hs, hr⟩ := id rd
    exact ⟨a, vs, by rw [e], .inr ⟨sub_t s.sub hs, by rw [← e]; exact q _ _ ρ Z H wd.2 (Out.same s rd wd.1)⟩⟩
  | lst m l =>
    obtain ⟨a, vs, e, hv, hr⟩ := lst_read s.sub rd
    exact ⟨a, vs, by rw [e], .inl ⟨SqL.of hv, fun p hp => q _ _ ρ _ _ wd.2 (out_tup s hp hr wd.1)⟩⟩
  | lsk l =>
    obtain ⟨_, a, vs, e, hv, hr⟩ := rd
    exact ⟨a, vs, by rw [e], .inl ⟨sub_l s.sub hv, fun p hp => q _ _ ρ _ _ wd.2 (out_tup s hp hr wd.1)⟩⟩
  | _ => exact wd.elim
/-- .. of anything that is told by an expression, kept -/
def eTupE (we : Ew) : Ew := fun ρ Q Qx => we ρ (fun d ρ' => match seqD d with
  | some l => owns l = [] ∧ Q (.tup l) ρ'
  | none => False) Qx
theorem seq_frz {d : D} {l : List D} (h : seqD d = some l) (n : owns l = []) : seqD (frz d) = some l := by
  cases d with
  | tup l' => cases h; show some (frzs l) = some l; rw [frzs_of l n]
  | lsk l' => cases h; show some (frzs l) = some l; rw [frzs_of l n]
  | lst m l' => cases h; show some (frzs l) = some l; rw [frzs_of l n]
  | _ => cases h
theorem frz_seq_own {d : D} {l : List D} (h : seqD (frz d) = some l) : owns l = [] := by
  have := own_frz d
  cases d with
  | tup l' => cases h; exact this
  | lsk l' => cases h; exact this
  | lst m l' => cases h; exact this
  | _ => cases h
theorem de_tupE {p : Pos} (ha : DE X W e we) (hg : Gl X "tuple") (hm : X.mg "tuple" = none) (hv : bootBuiltins "tuple" = some (.type "tuple")) (he : starEach [e] X.env = (false, eval e X.env) :: starEach [] X.env := by rfl) (hpl : (backTo pos (starEach [] X.env)).any (·.1) = false := by rfl) :
    DE X W (.Call (.Name "tuple" p) [e] [] pos) (eTupE we) := by
  obtain ⟨t, pa, ra⟩ := ha
  refine ⟨_, pe_callTy call_tuple_of hg hm hv (pa_cons pa pa_nil he) (by decide) (by decide) he hpl, fun σ H Z ρ Q Qx s w fx QQ q => ?_⟩
  refine ra σ H Z ρ _ Qx s w fx _ fun v d ρ1 Z1 H1 wd o => ?_
  have o' := o.frz
  have st : Step Z H (eo ρ) (fz Z1 H1 (own d)) H1 (eo ρ1) := o'.b.step
  cases hd0 : seqD d with
  | none => simp only [hd0] at wd
  | some l =>
    simp only [hd0] at wd
    obtain ⟨hn, wd⟩ := wd
    have hd := seq_frz hd0 hn
    have rd := o'.rep
    generalize hfd : frz d = fd at rd hd
    cases fd with
    | tup l' =>
      cases hd
      obtain ⟨_, a, vs, e, hs, hr⟩ := id rd
      exact ⟨a, vs, by rw [e], .inr ⟨sub_t o'.st.sub hs, by rw [← e]; exact q _ _ ρ1 _ H1 wd ((Out.same o'.st rd hn).pre st)⟩⟩
    | lst m l' =>
      cases hd
      obtain ⟨a, vs, e, hv, hr⟩ := lst_read o'.st.sub rd
      exact ⟨a, vs, by rw [e], .inl ⟨SqL.of hv, fun p hp => q _ _ ρ1 _ _ wd ((out_tup o'.st hp hr hn).pre st)⟩⟩
    | lsk l' =>
      cases hd
      obtain ⟨_, a, vs, e, hv, hr⟩ := rd
      exact ⟨a, vs, by rw [e], .inl ⟨sub_l o'.st.sub hv, fun p hp => q _ _ ρ1 _ _ wd ((out_tup o'.st hp hr hn).pre st)⟩⟩
    | _ => cases hd
/-- a + b of two lists: a new one -/
def eCat (wa wb : Ew) : Ew := fun ρ Q Qx => wa ρ (fun x ρ1 => match x with
  | .lst _ l => owns l = [] ∧ wb ρ1 (fun y ρ2 => match y with
    | .lst _ r => owns r = [] ∧ l.length + r.length ≤ sizeLine ∧ ∀ p, Q (.lst (some p) (l ++ r)) ρ2
    | _ => False) Qx
  | _ => False) Qx
theorem lst_frz {m : Option Addr} {l : List D} (n : owns l = []) : frz (.lst m l) = .lst none l := by show D.lst none (frzs l) = _; rw [frzs_of l n]
theorem de_cat {a b : Expr} (ha : DE X W a wa) (hb : DE X W b wb) : DE X W (.BinOp a .Add b pos) (eCat wa wb) := by
  obtain ⟨ta, pa, ra⟩ := ha
  obtain ⟨tb, pb, rb⟩ := hb
  refine ⟨_, pe_op op_cat pa pb, fun σ H Z ρ Q Qx s w fx QQ q => ?_⟩
  refine ra σ H Z ρ _ Qx s w fx _ fun u x ρ1 Z1 H1 wx o1 => ?_
  cases x with
  | lst m l =>
    obtain ⟨nl, wx⟩ := wx
    have o1' := o1.frz
    rw [lst_frz nl] at o1'
    have s1 := o1'.b.step
    obtain ⟨hn1, a1, vs1, e1, hz1, hr1⟩ := o1'.rep
    refine rb σ H1 _ ρ1 _ Qx o1'.st wx (fx.pre s1) _ fun v y ρ2 Z2 H2 wy o2 => ?_
    cases y with
    | lst m2 r =>
      obtain ⟨nr, hlen, wy⟩ := wy
      have o2' := o2.frz
      rw [lst_frz nr] at o2'
      obtain ⟨hn2, a2, vs2, e2, hz2, hr2⟩ := o2'.rep
      have st2 := s1.trans o2'.b.step
      refine ⟨a1, a2, vs1, vs2, e1, e2, o2'.st.sub a1 _ (o2'.step.zz a1 _ hz1), o2'.st.sub a2 _ hz2, by rw [hr1.length, hr2.length]; exact hlen, fun p hp => ?_⟩
      have on : owns (l ++ r) = [] := by rw [owns_append, hn1, hn2]; rfl
      exact q _ _ ρ2 _ _ (wy p) ((out_new o2'.st hp ((hr1.sh o2'.step.zz hn1).append hr2) on).pre st2)
    | _ => exact wy.elim
  | _ => exact wx.elim
/-- a + b of two tuples -/
def eCatT (wa wb : Ew) : Ew := fun ρ Q Qx => wa ρ (fun x ρ1 => match x with
  | .tup l => owns l = [] ∧ wb ρ1 (fun y ρ2 => match y with
    | .tup r => l.length + r.length ≤ sizeLine ∧ Q (.tup (l ++ r)) ρ2
    | _ => False) Qx
  | _ => False) Qx
theorem de_catT {a b : Expr} (ha : DE X W a wa) (hb : DE X W b wb) : DE X W (.BinOp a .Add b pos) (eCatT wa wb) := by
  obtain ⟨ta, pa, ra⟩ := ha
  obtain ⟨tb, pb, rb⟩ := hb
  refine ⟨_, pe_op op_catA pa pb, fun σ H Z ρ Q Qx s w fx QQ q => ?_⟩
  refine ra σ H Z ρ _ Qx s w fx _ fun u x ρ1 Z1 H1 wx o1 => ?_
  cases x with
  | tup l =>
    have s1 := o1.b.step
    obtain ⟨hn1, a1, vs1, e1, hz1, hr1⟩ := o1.rep
    refine rb σ H1 Z1 ρ1 _ Qx o1.st wx.2 (fx.pre s1) _ fun v y ρ2 Z2 H2 wy o2 => ?_
    cases y with
    | tup r =>
      obtain ⟨hn2, a2, vs2, e2, hz2, hr2⟩ := id o2.rep
      have st2 := s1.trans o2.b.step
      have hr1' : Reps X.K Z2 H2 l vs1 := hr1.sh o2.step.zz hn1
      have on : owns (l ++ r) = [] := by rw [owns_append, hn1, hn2]; rfl
      refine ⟨a1, a2, vs1, vs2, e1, e2, sub_t (o2.step.zz.trans o2.st.sub) hz1, sub_t o2.st.sub hz2, by rw [hr1.length, hr2.length]; exact wy.1, fun hv => ?_, fun hv hw => ?_, fun hv hw p hp => ?_⟩
      · have hl : l = [] := by
          have := hr1.length
          rw [hv] at this
          exact List.length_eq_zero_iff.mp this.symm
        rw [← e2]
        refine q _ _ ρ2 Z2 H2 wy.2 ((Out.same (d := .tup (l ++ r)) o2.st ?_ on).pre st2)
        rw [hl]; exact o2.rep
      · have hl : r = [] := by
          have := hr2.length
          rw [hw] at this
          exact List.length_eq_zero_iff.mp this.symm
        rw [← e1]
        refine q _ _ ρ2 Z2 H2 wy.2 ((Out.same (d := .tup (l ++ r)) o2.st ?_ on).pre st2)
        rw [hl, List.append_nil]; exact Rep.sh o2.step.zz hn1 o1.rep
      · exact q _ _ ρ2 _ _ wy.2 ((out_tup o2.st hp (hr1'.append hr2) on).pre st2)
    | _ => exact wy.elim
  | _ => exact wx.elim
/-- xs * n of a list of what nobody owns -/
def eRep (wa wb : Ew) : Ew := fun ρ Q Qx => wa ρ (fun x ρ1 => match x with
  | .lst _ l => owns l = [] ∧ wb ρ1 (fun y ρ2 => match y with
    | .int k => -(2 ^ 63) ≤ k ∧ k < 2 ^ 63 ∧ l.length * k.toNat ≤ sizeLine ∧ ∀ p, Q (.lst (some p) (List.replicate k.toNat l).flatten) ρ2
    | _ => False) Qx
  | _ => False) Qx
theorem owns_rep {l : List D} (h : owns l = []) : ∀ k : Nat, owns (List.replicate k l).flatten = []
  | 0 => rfl
  | k + 1 => by rw [List.replicate_succ, List.flatten_cons, owns_append, h, owns_rep h k]; rfl
theorem Reps.rep {K : PySem.W.Frag} {Z H : Hp} {l : List D} {vs : List V} (r : Reps K Z H l vs) : ∀ k : Nat, Reps K Z H (List.replicate k l).flatten (List.replicate k vs).flatten
  | 0 => rfl
  | k + 1 => by rw [List.replicate_succ, List.flatten_cons, List.replicate_succ, List.flatten_cons]; exact r.append (Reps.rep r k)
theorem de_rep {a b : Expr} (ha : DE X W a wa) (hb : DE X W b wb) : DE X W (.BinOp a .Mult b pos) (eRep wa wb) := by
  obtain ⟨ta, pa, ra⟩ := ha
  obtain ⟨tb, pb, rb⟩ := hb
  refine ⟨_, pe_op op_rep pa pb, fun σ H Z ρ Q Qx s w fx QQ q => ?_⟩
  refine ra σ H Z ρ _ Qx s w fx _ fun u x ρ1 Z1 H1 wx o1 => ?_
  cases x with
  | lst m l =>
    obtain ⟨nl, wx⟩ := wx
    have o1' := o1.frz
    rw [lst_frz nl] at o1'
    have s1 := o1'.b.step
    obtain ⟨hn1, a1, vs1, e1, hz1, hr1⟩ := o1'.rep
    refine rb σ H1 _ ρ1 _ Qx o1'.st wx (fx.pre s1) _ fun v y ρ2 Z2 H2 wy o2 => ?_
    cases y with
    | int k =>
      have st2 := s1.trans o2.b.step
      refine ⟨a1, k, vs1, e1, o2.rep, o2.st.sub a1 _ (o2.step.zz a1 _ hz1), wy.1, wy.2.1, by rw [hr1.length]; exact wy.2.2.1, fun p hp => ?_⟩
      exact q _ _ ρ2 _ _ (wy.2.2.2 p) ((out_new o2.st hp ((hr1.sh o2.step.zz hn1).rep _) (owns_rep hn1 _)).pre st2)
    | _ => exact wy.elim
  | _ => exact wx.elim
end
end DL
set_option Elab.async false
set_option linter.all false
set_option maxRecDepth 100000
namespace DL
open PySem PySem.Spec PyProof.Rows L2

/-! ### short names for the words -/
abbrev rdAdd : RD := rdI0 fun i j => .int (i + j)
abbrev rdSub : RD := rdI0 fun i j => .int (i - j)
abbrev rdMul : RD := rdI MulOk fun i j => .int (i * j)
abbrev rdFdiv : RD := rdI CDivW fun i j => .int (i / j)
abbrev rdMod : RD := rdI (fun _ j => 0 < j) fun i j => .int (i % j)
abbrev rdPow : RD := rdI CPow fun i j => .int (i ^ j.toNat)
abbrev rdLt : RD := rdI0 fun i j => .bl (decide (i < j))
abbrev rdLe : RD := rdI0 fun i j => .bl (decide (i ≤ j))
abbrev rdGt : RD := rdI0 fun i j => .bl (decide (j < i))
abbrev rdGe : RD := rdI0 fun i j => .bl (decide (j ≤ i))
abbrev rdMax2 := rdI2 fun i j => if j > i then j else i
abbrev rdMin2 := rdI2 fun i j => if j < i then j else i
abbrev rdMaxL := rdExt fun y m => y ≤ m
abbrev rdMinL := rdExt fun y m => m ≤ y
section
variable {X : Cx} {W : WX} {a b c e : Expr} {es : List Expr} {pos : Pos} {wp wq wr : Pw} {wa wb : Ew} {ws : Aw} {wi : Iw}
/-- text + text -/
def rdAddS : RD := fun x y Q => match x, y with
  | .str i, .str j => i.length + j.length ≤ sizeLine ∧ Q (.str (i ++ j))
  | _, _ => False
theorem dop_addS : DOp X (binaryOp .Add) rdAddS := by
  refine ⟨_, op_add_str, fun Z H x y u v Q _ rx ry w QQ q => ?_⟩
  unfold rdAddS at w
  split at w
  · rename_i i j
    exact ⟨i, j, rx, ry, w.1, q _ _ w.2 rfl rfl⟩
  · exact w.elim
/-- a op b op c -/
def tChainP (r r' : RD) (wp wq wr : Pw) : Tw := fun ρ Q _ => wp ρ fun x => wq ρ fun y => r x y fun z => match z with
  | .bl k => if k = true then wr ρ fun u => r' y u fun z' => (match z' with
    | .bl k' => Q k' ρ
    | _ => False) else Q false ρ
  | _ => False
theorem dt_chainP {o o' : CmpOp} {r r' : RD} (h : DOp X (compareOp o) r) (h' : DOp X (compareOp o') r') (ha : DP X a wp) (hb : DP X b wq) (hc : DP X c wr) (hm : lastMarks [o, o'] [b, c] = false := by with_unfolding_all rfl) : DT X W (.Compare a [o, o'] [b, c] pos) (tChainP r r' wp wq wr) := by
  obtain ⟨t, ht, hd⟩ := h
  obtain ⟨t', ht', hd'⟩ := h'
  obtain ⟨ta, pa, ra⟩ := ha
  obtain ⟨tb, pb, rb⟩ := hb
  obtain ⟨tc, pc, rc⟩ := hc
  refine ⟨_, pt_chain ht ht' pa pb pc hm, fun σ H Z ρ Q Qx s w fx QQ q => ?_⟩
  refine ra σ H Z ρ _ s w _ fun u x wx rx => ?_
  refine rb σ H Z ρ _ s wx _ fun v y wy ry => ?_
  refine hd Z H x y u v _ s.sub rx ry wy _ fun z d hq hr _ => ?_
  cases d with
  | bl k =>
    refine ⟨k, hr, ?_⟩
    cases k with
    | true =>
      refine rc σ H Z ρ _ s hq _ fun u' x' wx' rx' => ?_
      refine hd' Z H y x' v u' _ s.sub ry rx' wx' _ fun z' d' hq' hr' _ => ?_
      cases d' with
      | bl k' => exact ⟨k', hr', q k' ρ Z H hq' (OutB.same s)⟩
      | _ => exact hq'.elim
    | false => exact ⟨false, rfl, q false ρ Z H hq (OutB.same s)⟩
  | _ => exact hq.elim
/-- a[b], the base or the index of any kind; a child that nobody owns -/
def ixD (x y : D) (Q : D → Prop) : Prop := match x, y with
  | .tup l, .int i => (match atI l i with
    | some d => Q d
    | none => False)
  | .lst _ l, .int i => (match atI l i with
    | some d => Q d
    | none => False)
  | .str z, .int i => z.length ≤ sizeLine ∧ (match atI z.cps.toList i with
    | some c => Q (.str ⟨#[c]⟩)
    | none => False)
  | _, _ => False
def eIx (wa wb : Ew) : Ew := fun ρ Q Qx => wa ρ (fun x ρ1 => own x = [] ∧ wb ρ1 (fun y ρ2 => ixD x y fun d => own d = [] ∧ Q d ρ2) Qx) Qx
theorem de_ix (ha : DE X W a wa) (hb : DE X W b wb) (hs : PlainIx b) : DE X W (.Subscript a b pos) (eIx wa wb) := by
  obtain ⟨ta, pa, ra⟩ := ha
  obtain ⟨tb, pb, rb⟩ := hb
  refine ⟨_, pe_ix ix_seq pa pb hs, fun σ H Z ρ Q Qx s w fx QQ q => ?_⟩
  refine ra σ H Z ρ _ Qx s w fx _ fun u x ρ1 Z1 H1 wx o1 => ?_
  have s1 := o1.b.step
  refine rb σ H1 Z1 ρ1 _ Qx o1.st wx.2 (fx.pre s1) _ fun v y ρ2 Z2 H2 wy o2 => ?_
  have rx : Rep X.K Z2 H2 x u := Rep.sh o2.step.zz wx.1 o1.rep
  have s2 := s1.trans o2.b.step
  cases y with
  | int i =>
    rw [show v = .int i from o2.rep]
    cases x with
    | tup l =>
      cases h : atI l i with
      | none => simp only [ixD, h] at wy
      | some d =>
        simp only [ixD, h] at wy
        obtain ⟨n, p, vs, e, hs', hr⟩ := rx
        obtain ⟨c, h1, h2⟩ := hr.atI h
        exact .inr (.inl ⟨p, vs, i, c, e, rfl, sub_t o2.st.sub hs', h1, q _ _ ρ2 Z2 H2 wy.2 ((Out.same o2.st h2 wy.1).pre s2)⟩)
    | lst m l =>
      cases h : atI l i with
      | none => simp only [ixD, h] at wy
      | some d =>
        simp only [ixD, h] at wy
        obtain ⟨p, vs, e, hs', hr⟩ := lst_read o2.st.sub rx
        obtain ⟨c, h1, h2⟩ := hr.atI h
        exact .inl ⟨p, vs, i, c, e, rfl, SqL.of hs', h1, q _ _ ρ2 Z2 H2 wy.2 ((Out.same o2.st h2 wy.1).pre s2)⟩
    | str z =>
      obtain ⟨hz, wy⟩ := wy
      cases h : atI z.cps.toList i with
      | none => simp only [h] at wy
      | some c =>
        simp only [h] at wy
        exact .inr (.inr ⟨z, i, c, rx, rfl, hz, h, q (.str ⟨#[c]⟩) (.str ⟨#[c]⟩) ρ2 Z2 H2 wy.2 ((Out.same (d := .str ⟨#[c]⟩) (v := .str ⟨#[c]⟩) o2.st rfl rfl).pre s2)⟩)
    | _ => exact wy.elim
  | _ => cases x <;> exact wy.elim
/-- a, b = x, y -/
def sPar (i j : Nat) (ws : Aw) : Sw := fun D ρ => ws ρ (fun as ρ1 => match valsOf as with
  | some [x, y] => owns [x, y] = [] ∧ D.nx ((ρ1.set i (some x)).set j (some y))
  | _ => False) D.xx
theorem ds_par {i j : Nat} {x y : Str} {px py pt : Pos} {kt k2 pt2} (hc : X.calm = true) (hN : X.N.Nodup) (hi : X.N[i]? = some x) (hj : X.N[j]? = some y) (hij : i ≠ j) (hx : X.env.scope.names.lookup x = some .local) (hy : X.env.scope.names.lookup y = some .local) (ha : DA X W [a, b] ws)
    (hw : swappedStores [.Tuple [.Name x px, .Name y py] kt pt] (.Tuple [a, b] k2 pt2) X.env = pure (some [x, y])) (hs : swapsWithSole [.Tuple [.Name x px, .Name y py] kt pt] (.Tuple [a, b] k2 pt2) pos.line X.env = pure false := by rfl) :
    DS X W (.Assign [.Tuple [.Name x px, .Name y py] kt pt] (.Tuple [a, b] k2 pt2) pos) (sPar i j ws) := by
  obtain ⟨t, p, r⟩ := ha
  refine ⟨_, ps_par hc hN hi hj hij hx hy p hw hs, fun σ H Z ρ D DD s w f => ?_⟩
  refine r σ H Z ρ _ _ s w (f.xx σ) _ fun vs as ρ1 Z1 H1 w1 o => ?_
  cases h : valsOf as with
  | none => simp only [h] at w1
  | some ds =>
    obtain ⟨rs, ow⟩ := valsOf_rep h o.rep
    match ds, rs, w1, h with
    | [d1, d2], rs, w1, h =>
      simp only [h] at w1
      obtain ⟨v1, vr1, e1, r1, v2, vr2, e2, r2, r3⟩ := rs
      have hn := w1.1
      have n1 : own d1 = [] := by
        have := List.append_eq_nil_iff.mp hn; exact this.1
      have n2 : own d2 = [] := by
        have := List.append_eq_nil_iff.mp hn
        have := List.append_eq_nil_iff.mp this.2; exact this.1
      refine ⟨v1, v2, by rw [e1, e2, show vr2 = [] from r3], ?_⟩
      have st : Step Z H (eo ρ) Z1 H1 (eo ρ1) := o.step.sub fun a ha => List.mem_append_right _ ha
      have l1 : i < ρ1.length := by rw [o.st.ln]; exact lt_of_get hi
      have s1 := o.st.store r1 (nd_of_nil n1 o.st.nd) l1
      have l2 : j < (ρ1.set i (some d1)).length := by rw [s1.ln]; exact lt_of_get hj
      have s2 := s1.store r2 (nd_of_nil n2 s1.nd) l2
      refine f.nx _ _ Z1 H1 w1.2 ⟨s2, st.sub fun a ha => ?_⟩
      have := eo_store_sub l2 ha
      rw [n2] at this
      have := eo_store_sub l1 this
      rw [n1] at this; exact this
    | [], _, w1, h => simp only [h] at w1
    | [_], _, w1, h => simp only [h] at w1
    | _ :: _ :: _ :: _, _, w1, h => simp only [h] at w1
/-- a list or a tuple that nobody owns, walked -/
def iSq (wa : Ew) : Iw := fun ρ Q Qx => wa ρ (fun d ρ' => match d with
  | .tup l => Q l ρ'
  | .lst none l => Q l ρ'
  | .lsk l => Q l ρ'
  | _ => False) Qx
theorem PI.either {X : Cx} {tg iter : Expr} {te : TE} (h : PE X iter te) : PI X tg iter (fun σ H R => te σ H fun x H1 => (∃ a, x = .ref a ∧ (∃ xs, SqL X.K H1 a xs) ∧ R (Itl X.K a) H1) ∨ (∃ a, x = .ref a ∧ (∃ xs, SqT X.K H1 a xs) ∧ R (Itt X.K a) H1)) := by
  refine ⟨fun pins s σ H R I hw => ?_⟩
  refine thn (h.run pins s σ H _ I hw) fun v s1 ⟨x, H1, I1, r1, q1⟩ => ?_
  rcases q1 with ⟨a, e, ⟨xs, hq⟩, q⟩ | ⟨a, e, ⟨xs, hq⟩, q⟩
  · subst e
    cases r1
    obtain ⟨its, rv, p, hz⟩ := I1.list hq
    refine wpAny_pyIter_list p.isList ?_
    refine ⟨s1.heap.objs.size, [s1.heap.objs.size], _, _, H1, rfl, I1.kept (t' := s1.toks) fun b o e => Heap.get?_push_of_some _ e, turn_list a _, ⟨_, Heap.get?_push_size _ rfl, rfl, rfl⟩, fun b hb => ?_, q⟩
    have e : b = s1.heap.objs.size := by simpa using hb
    subst e
    exact I1.fpOk (Nat.le_refl _) (I1.hok.fresh (Nat.le_refl _))
  · subst e
    cases r1
    obtain ⟨its, rv, p, hz⟩ := I1.tuple hq
    refine wpAny_pyIter_tuple p ?_
    refine ⟨s1.heap.objs.size, [s1.heap.objs.size], _, _, H1, rfl, I1.kept (t' := s1.toks) fun b o e => Heap.get?_push_of_some _ e, turn_tuple a _, ⟨_, Heap.get?_push_size _ rfl, rfl, rfl⟩, fun b hb => ?_, q⟩
    have e : b = s1.heap.objs.size := by simpa using hb
    subst e
    exact I1.fpOk (Nat.le_refl _) (I1.hok.fresh (Nat.le_refl _))
theorem di_seq {tg iter : Expr} (h : DE X W iter wa) : DI X W tg iter (iSq wa) := by
  obtain ⟨t, p, r⟩ := h
  refine ⟨_, PI.either p, fun σ H Z ρ Q Qx s w fx R q => ?_⟩
  refine r σ H Z ρ _ Qx s w fx _ fun v d ρ' Z' H' w' o => ?_
  cases d with
  | lst m l => cases m with
    | none =>
      obtain ⟨n, p, vs, e, hs, hr⟩ := o.rep
      exact .inl ⟨p, e, ⟨vs, SqL.of (o.st.sub p _ hs)⟩, q l ρ' Z' H' _ w' o.b (walk_list (SqL.of hs) hr n fun _ _ _ _ _ _ => trivial)⟩
    | some ad => exact w'.elim
  | lsk l =>
    obtain ⟨n, p, vs, e, hs, hr⟩ := o.rep
    exact .inl ⟨p, e, ⟨vs, sub_l o.st.sub hs⟩, q l ρ' Z' H' _ w' o.b (walk_list hs hr n fun _ _ _ _ _ _ => trivial)⟩
  | tup l =>
    obtain ⟨n, p, vs, e, hs, hr⟩ := o.rep
    exact .inr ⟨p, e, ⟨vs, sub_t o.st.sub hs⟩, q l ρ' Z' H' _ w' o.b (walk_tup hs hr n)⟩
  | _ => exact w'.elim
/-! an owned list that the loop leaves as it is -/
def WalkB (K : PySem.W.Frag) (J : It) (a : Addr) (f : Nat → D → D) : Prop := ∀ (Z1 H1 : Hp) (l : List D) (vs : List V), Sub Z1 H1 → H1 a = some (.lst vs) → Reps K Z1 H1 l vs → owns l = [] → ∀ i : Nat,
  (∀ d, l[i]? = some d → J.go i H1 ∧ ∀ x H2, J.yld i H1 x H2 → ∃ Z2, Rep K Z2 H2 (f i d) x ∧ own (f i d) = [] ∧ Sub Z2 H2 ∧ Sub Z1 Z2 ∧ Sub H1 H2 ∧ ∀ a, Z1 a = none → Z2 a ≠ none → H1 a = none) ∧ (l[i]? = none → J.stop i H1)
structure DIB (X : Cx) (tg iter : Expr) (f : Nat → D → D) (wi : Env → (Path → Addr → List D → Prop) → Prop) : Prop where
  run : ∃ t, PI X tg iter t ∧ ∀ (σ : L2.St) (H Z : Hp) (ρ : Env) (Q : Path → Addr → List D → Prop), St X.K X.N.length Z H σ ρ → wi ρ Q →
    ∀ R : It → Hp → Prop, (∀ p a l J, Q p a l → getP ρ p = some (.lst (some a) l) → owns l = [] → WalkB X.K J a f → R J H) → t σ H R
def bLst (wl : Lw) : Env → (Path → Addr → List D → Prop) → Prop := fun ρ Q => wl ρ fun p d => match d with
  | .lst (some a) l => owns l = [] ∧ Q p a l
  | _ => False
theorem dib_list {tg iter : Expr} {wl : Lw} (h : DPath X iter wl) : DIB X tg iter (fun _ d => d) (bLst wl) := by
  obtain ⟨t, p, r⟩ := h
  refine ⟨_, pi_list p, fun σ H Z ρ Q s w R q => ?_⟩
  refine r σ H Z ρ _ s w _ fun v p d w' hg rd => ?_
  cases d with
  | lst m l => cases m with
    | some a =>
      obtain ⟨e, za, vs, hv, hr⟩ := rd
      refine ⟨a, e, ⟨vs, SqL.of hv⟩, q p a l _ w'.2 hg w'.1 ?_⟩
      intro Z1 H1 l1 vs1 hs hv1 hr1 n i
      refine ⟨fun d hd => ?_, fun hd => ⟨vs1, SqL.of hv1, by rw [hr1.length]; exact get_none_len hd⟩⟩
      obtain ⟨v', h1, h2⟩ := hr1.get hd
      refine ⟨⟨vs1, v', SqL.of hv1, h1⟩, fun x H2 hy => ?_⟩
      obtain ⟨rfl, hx⟩ := hy
      have : x = v' := Option.some.inj ((hx vs1 (SqL.of hv1)).symm.trans h1)
      subst this
      exact ⟨Z1, h2, owns_nil.mp n d (List.mem_of_getElem? hd), hs, Sub.refl _, Sub.refl _, fun a z z' => absurd z z'⟩
    | none => exact w'.elim
  | _ => exact w'.elim
theorem enum_item {K : PySem.W.Frag} {Z1 H1 : Hp} {T : Addr} {i : Nat} {d : D} {v : V} (hs : Sub Z1 H1) (hT : H1 T = none) (r : Rep K Z1 H1 d v) (n : own d = []) :
    Rep K (upd Z1 T (.tup [.int (i : Nat), v])) (upd H1 T (.tup [.int (i : Nat), v])) (.tup [.int (i : Nat), d]) (.ref T) ∧ own (.tup [.int (i : Nat), d]) = [] ∧ Sub (upd Z1 T (.tup [.int (i : Nat), v])) (upd H1 T (.tup [.int (i : Nat), v])) ∧ Sub Z1 (upd Z1 T (.tup [.int (i : Nat), v])) ∧ Sub H1 (upd H1 T (.tup [.int (i : Nat), v])) ∧ ∀ a, Z1 a = none → (upd Z1 T (.tup [.int (i : Nat), v])) a ≠ none → H1 a = none := by
  have zT : Z1 T = none := by
    cases e : Z1 T with
    | none => rfl
    | some u => rw [hs T u e] at hT; cases hT
  have on : owns [.int (i : Nat), d] = [] := by show [] ++ (own d ++ []) = []; rw [n]; rfl
  refine ⟨⟨on, T, _, rfl, SqT.of upd_same, ⟨.int (i : Nat), [v], rfl, rfl, Reps.one (Rep.sh (upd_sub zT) n r)⟩⟩, on, fun a u e => ?_, upd_sub zT, upd_sub hT, fun a z z' => ?_⟩
  · by_cases h : a = T
    · subst h; rw [upd_same] at e ⊢; exact e
    · rw [upd_ne h] at e ⊢; exact hs a u e
  · by_cases h : a = T
    · rw [h]; exact hT
    · rw [upd_ne h] at z'; exact absurd z z'
theorem dib_enum {e : Expr} {wl : Lw} {p pos tpos : Pos} {elts : List Expr} {kk : Nat} (h : DPath X e wl) (hg : Gl X "enumerate") (hm : X.mg "enumerate" = none) (hs : starEach [e] X.env = [(false, eval e X.env)] := by rfl) : DIB X (.Tuple elts kk tpos) (.Call (.Name "enumerate" p) [e] [] pos) (fun i d => .tup [.int (i : Nat), d]) (bLst wl) := by
  obtain ⟨t, p, r⟩ := h
  refine ⟨_, pi_enum hg hm (pa_cons p pa_nil hs) hs, fun σ H Z ρ Q s w R q => ?_⟩
  refine r σ H Z ρ _ s w _ fun v p d w' hg rd => ?_
  cases d with
  | lst m l => cases m with
    | some a =>
      obtain ⟨e, za, vs, hv, hr⟩ := rd
      refine ⟨a, vs, by rw [e], SqL.of hv, q p a l _ w'.2 hg w'.1 ?_⟩
      intro Z1 H1 l1 vs1 hs1 hv1 hr1 n i
      refine ⟨fun d hd => ?_, fun hd => ⟨vs1, SqL.of hv1, by rw [hr1.length]; exact get_none_len hd⟩⟩
      obtain ⟨v', h1, h2⟩ := hr1.get hd
      refine ⟨⟨vs1, v', SqL.of hv1, h1⟩, fun x H2 hy => ?_⟩
      obtain ⟨T, x', rfl, hT, rfl, hx⟩ := hy
      have : x' = v' := Option.some.inj ((hx vs1 (SqL.of hv1)).symm.trans h1)
      subst this
      exact ⟨_, enum_item hs1 hT h2 (owns_nil.mp n d (List.mem_of_getElem? hd))⟩
    | none => exact w'.elim
  | _ => exact w'.elim
/-- enumerate of a list that nobody owns -/
def enumD (l : List D) : List D := l.mapIdx fun i d => .tup [.int (i : Nat), d]
theorem enumD_own {l : List D} (h : owns l = []) : owns (enumD l) = [] := by
  rw [owns_nil] at h ⊢
  intro d hd
  obtain ⟨i, hi, rfl⟩ := List.mem_mapIdx.mp hd
  show [] ++ (own l[i] ++ []) = []
  rw [h _ (List.getElem_mem hi)]; rfl
def iEnumD (wa : Ew) : Iw := fun ρ Q Qx => wa ρ (fun d ρ' => match d with
  | .lst none l => Q (enumD l) ρ'
  | .lsk l => Q (enumD l) ρ'
  | _ => False) Qx
theorem walk_enum {K : PySem.W.Frag} {Z H : Hp} {p : Addr} {vs : List V} {l : List D} (hs : SqL K Z p vs) (hr : Reps K Z H l vs) (n : owns l = []) : Walk K Z (Ite K p) (enumD l) := by
  refine ⟨enumD_own n, fun Z1 H1 hz hh i => ⟨fun d hd => ?_, fun hd => ?_⟩⟩
  · unfold enumD at hd
    rw [List.getElem?_mapIdx] at hd
    cases h0 : l[i]? with
    | none => rw [h0] at hd; cases hd
    | some c =>
      rw [h0] at hd
      cases hd
      obtain ⟨v, h1, h2⟩ := hr.get h0
      have hS : SqL K H1 p vs := sub_l (hz.trans hh) hs
      have oc := owns_nil.mp n c (List.mem_of_getElem? h0)
      refine ⟨⟨vs, v, hS, h1⟩, fun x H2 hy => ?_⟩
      obtain ⟨T, x', rfl, hT, rfl, hx⟩ := hy
      have : x' = v := Option.some.inj ((hx vs hS).symm.trans h1)
      subst this
      have e := enum_item (i := i) hh hT (Rep.sh (H' := H1) hz oc h2) oc
      exact ⟨_, e.1, e.2.2⟩
  · refine ⟨vs, sub_l (hz.trans hh) hs, ?_⟩
    have := get_none_len hd
    rw [hr.length]
    simpa [enumD] using this
theorem di_enum {e : Expr} {p pos tpos : Pos} {elts : List Expr} {kk : Nat} (h : DE X W e wa) (hg : Gl X "enumerate") (hm : X.mg "enumerate" = none) (hs : starEach [e] X.env = [(false, eval e X.env)] := by rfl) : DI X W (.Tuple elts kk tpos) (.Call (.Name "enumerate" p) [e] [] pos) (iEnumD wa) := by
  obtain ⟨t, p, r⟩ := h
  refine ⟨_, pi_enum hg hm (pa_cons p pa_nil hs) hs, fun σ H Z ρ Q Qx s w fx R q => ?_⟩
  refine r σ H Z ρ _ Qx s w fx _ fun v d ρ' Z' H' w' o => ?_
  cases d with
  | lst m l => cases m with
    | none =>
      obtain ⟨n, p, vs, e, hs, hr⟩ := o.rep
      exact ⟨p, vs, by rw [e], SqL.of (o.st.sub p _ hs), q _ ρ' Z' H' _ w' o.b (walk_enum (SqL.of hs) hr n)⟩
    | some ad => exact w'.elim
  | lsk l =>
    obtain ⟨n, p, vs, e, hs, hr⟩ := o.rep
    exact ⟨p, vs, by rw [e], sub_l o.st.sub hs, q _ ρ' Z' H' _ w' o.b (walk_enum hs hr n)⟩
  | _ => exact w'.elim
@[irreducible] def sForB (f : Nat → D → D) (wi : Env → (Path → Addr → List D → Prop) → Prop) (g : Gw) (wb : Sw) : Sw := fun D ρ => wi ρ fun p a l => ∃ Inv : Nat → Env → Prop, Inv 0 ρ ∧
  (∀ i d ρ2, l[i]? = some d → Inv i ρ2 → getP ρ2 p = some (.lst (some a) l) ∧ g (f i d) ρ2 fun ρ3 => wb { D with nx := Inv (i + 1), ct := Inv (i + 1), bk := D.nx } ρ3) ∧ (∀ ρ2, Inv l.length ρ2 → getP ρ2 p = some (.lst (some a) l) ∧ D.nx ρ2)
theorem sForB_eq {f : Nat → D → D} {wi : Env → (Path → Addr → List D → Prop) → Prop} {g : Gw} {wb : Sw} : sForB f wi g wb = fun D ρ => wi ρ fun p a l => ∃ Inv : Nat → Env → Prop, Inv 0 ρ ∧
  (∀ i d ρ2, l[i]? = some d → Inv i ρ2 → getP ρ2 p = some (.lst (some a) l) ∧ g (f i d) ρ2 fun ρ3 => wb { D with nx := Inv (i + 1), ct := Inv (i + 1), bk := D.nx } ρ3) ∧ (∀ ρ2, Inv l.length ρ2 → getP ρ2 p = some (.lst (some a) l) ∧ D.nx ρ2) := by unfold sForB; rfl
theorem ds_forB {tg iter : Expr} {body : List Stmt} {g : Gw} {wb : Sw} {js : List Nat} {f : Nat → D → D} {wi : Env → (Path → Addr → List D → Prop) → Prop} (hp : PassesOwn (model X.prog X.w) X.A X.env X.xe) (hc : X.calm = true) (hi : DIB X tg iter f wi) (hg : DG X tg g js) (hb : DSs X W body wb) (hs : ∀ x, foldedSetIterable iter X.env x = pure x := by intro _; rfl) :
    DS X W (.For tg iter body [] pos) (sForB f wi g wb) := by
  obtain ⟨ti, pi', ri⟩ := hi
  obtain ⟨tg', pg, rg⟩ := hg
  obtain ⟨tb, pb, rb⟩ := hb
  refine ⟨_, ps_for hp hc pi' pg pb hs, fun σ H Z ρ D DD s w f1 => ?_⟩
  rw [sForB_eq] at w
  refine ri σ H Z ρ _ s w _ fun p a l J w1 hgp on wk => ?_
  obtain ⟨Inv, i0, iS, iE⟩ := w1
  refine ⟨fun i m σ' H' => i + m = l.length ∧ ∃ ρ' Z', Inv i ρ' ∧ OutB X.K X.N.length Z H (eo ρ) σ' Z' H' ρ', ⟨l.length, by omega, ρ, Z, i0, OutB.same s⟩, fun i m σ' H' hW => ?_⟩
  obtain ⟨em, ρ', Z', hI, o⟩ := hW
  have at_ : ∀ {c : getP ρ' p = some (.lst (some a) l)}, ∃ vs, H' a = some (.lst vs) ∧ Reps X.K Z' H' l vs := fun {c} => (o.st.relist c).2.1
  cases hd : l[i]? with
  | none =>
    have : i = l.length := by have := get_none_len hd; omega
    subst this
    obtain ⟨hc', he⟩ := iE ρ' hI
    obtain ⟨vs, hv, hr⟩ := @at_ hc'
    exact .inl ⟨(wk Z' H' l vs o.st.sub hv hr on _).2 hd, f1.nx σ' ρ' Z' H' he o⟩
  | some d =>
    obtain ⟨hc', hbody⟩ := iS i d ρ' hd hI
    obtain ⟨vs, hv, hr⟩ := @at_ hc'
    obtain ⟨hgo, hy⟩ := (wk Z' H' l vs o.st.sub hv hr on i).1 d hd
    have hlt := lt_of_get hd
    refine .inr ⟨hgo, fun σ2 H2 => ∃ ρ2 Z2, Inv (i + 1) ρ2 ∧ OutB X.K X.N.length Z H (eo ρ) σ2 Z2 H2 ρ2, fun σ2 H2 hN => ⟨m - 1, by omega, by omega, hN⟩, fun x H2 hx => ?_⟩
    obtain ⟨Z2, rx, ow, k1, k2, k3, k4⟩ := hy x H2 hx
    have o2 := item_step o.st k1 k2 k3 k4
    refine rg σ' H2 Z2 ρ' (f i d) x _ o2.st rx (nd_of_nil ow o2.st.nd) hbody _ fun σ3 ρ3 w3 s3 h3 _ _ => ?_
    have st3 : Step Z H (eo ρ) Z2 H2 (eo ρ3) := (o.step.trans o2.step).sub fun a ha => by
      have := h3 a ha
      rw [ow] at this; exact this
    refine rb σ3 H2 Z2 ρ3 _ _ s3 w3 ⟨fun σ4 ρ4 Z4 H4 q o4 => ⟨ρ4, Z4, q, o4.pre st3⟩, fun σ4 ρ4 Z4 H4 q o4 => f1.nx σ4 ρ4 Z4 H4 q (o4.pre st3), fun σ4 ρ4 Z4 H4 q o4 => ⟨ρ4, Z4, q, o4.pre st3⟩, fun v d σ4 ρ4 Z4 H4 q o4 => f1.rt v d σ4 ρ4 Z4 H4 q (o4.pre st3), fun σ4 => (f1.xx σ4).pre st3⟩
/-- len of what an expression gives -/
def eLen (wa : Ew) : Ew := fun ρ Q Qx => wa ρ (fun x ρ1 => match x with
  | .str z => z.length ≤ sizeLine ∧ Q (.int z.length) ρ1
  | x => (match lenD x with
    | some n => Q (.int n) ρ1
    | none => False)) Qx
theorem de_lenE {p : Pos} (ha : DE X W a wa) (hg : Gl X "len") (hm : X.mg "len" = none) (he : starEach [a] X.env = [(false, eval a X.env)] := by rfl) : DE X W (.Call (.Name "len" p) [a] [] pos) (eLen wa) := by
  obtain ⟨ta, pa, ra⟩ := ha
  refine ⟨_, pe_callB (CallR.or call_len_seq call_len_str) hg hm PySem.boot_len (pa_cons pa pa_nil he) (by decide) (by decide) he (by rfl), fun σ H Z ρ Q Qx s w fx QQ q => ?_⟩
  refine ra σ H Z ρ _ Qx s w fx _ fun u x ρ1 Z1 H1 wx o => ?_
  have fin : ∀ n : Nat, Q (.int n) ρ1 → QQ (.int n) H1 := fun n h => q _ (.int n) ρ1 Z1 H1 h ⟨o.st, rfl, o.st.nd, o.b.step⟩
  cases x with
  | tup l =>
    obtain ⟨n, p, vs, e, hs', hr⟩ := o.rep
    exact .inl ⟨p, vs, by rw [e], .inr (sub_t o.st.sub hs'), by rw [hr.length]; exact fin _ wx⟩
  | lst m l =>
    obtain ⟨p, vs, e, hs', hr⟩ := lst_read o.st.sub o.rep
    exact .inl ⟨p, vs, by rw [e], .inl (SqL.of hs'), by rw [hr.length]; exact fin _ wx⟩
  | lsk l =>
    obtain ⟨n, p, vs, e, hs', hr⟩ := o.rep
    exact .inl ⟨p, vs, by rw [e], .inl (sub_l o.st.sub hs'), by rw [hr.length]; exact fin _ wx⟩
  | str z => exact .inr ⟨z, by rw [show u = .str z from o.rep], wx.1, fin _ wx.2⟩
  | _ => exact wx.elim
def eNeg (wa : Ew) : Ew := fun ρ Q Qx => wa ρ (fun x ρ1 => match x with
  | .int i => Q (.int (-i)) ρ1
  | _ => False) Qx
theorem de_negE (ha : DE X W a wa) : DE X W (.UnaryOp .USub a pos) (eNeg wa) := by
  obtain ⟨ta, pa, ra⟩ := ha
  refine ⟨_, pe_un un_neg pa, fun σ H Z ρ Q Qx s w fx QQ q => ?_⟩
  refine ra σ H Z ρ _ Qx s w fx _ fun u x ρ1 Z1 H1 wx o => ?_
  cases x with
  | int i => rw [show u = .int i from o.rep]; exact ⟨i, rfl, q _ _ ρ1 Z1 H1 wx ⟨o.st, rfl, o.st.nd, o.b.step⟩⟩
  | _ => exact wx.elim
/-- list(..) of what an expression gives -/
def eListE (wa : Ew) : Ew := fun ρ Q Qx => wa ρ (fun d ρ' => match seqD d with
  | some l => owns l = [] ∧ ∀ p, Q (.lst (some p) l) ρ'
  | none => False) Qx
theorem de_listE {p : Pos} (ha : DE X W e wa) (hg : Gl X "list") (hm : X.mg "list" = none) (hv : bootBuiltins "list" = some (.type "list")) (he : starEach [e] X.env = (false, eval e X.env) :: starEach [] X.env := by rfl) (hpl : (backTo pos (starEach [] X.env)).any (·.1) = false := by rfl) :
    DE X W (.Call (.Name "list" p) [e] [] pos) (eListE wa) := by
  obtain ⟨t, pa, ra⟩ := ha
  refine ⟨_, pe_callTy call_list_of hg hm hv (pa_cons pa pa_nil he) (by decide) (by decide) he hpl, fun σ H Z ρ Q Qx s w fx QQ q => ?_⟩
  refine ra σ H Z ρ _ Qx s w fx _ fun v d ρ1 Z1 H1 wd o => ?_
  cases h : seqD d with
  | none => simp only [h] at wd
  | some l =>
    simp only [h] at wd
    obtain ⟨hn, wd⟩ := wd
    have o' := o.frz
    have st : Step Z H (eo ρ) (fz Z1 H1 (own d)) H1 (eo ρ1) := o'.b.step
    obtain ⟨a, vs, e, hs, hr⟩ := seqD_rep o'.st.sub (seq_frz h hn) o'.rep
    exact ⟨a, vs, by rw [e], hs, fun p hp => q _ _ ρ1 _ _ (wd p) ((out_new o'.st hp hr hn).pre st)⟩
/-- not e, by truth -/
def eNotT (wa : Ew) : Ew := fun ρ Q Qx => wa ρ (fun x ρ1 => match truD x with
  | some k => Q (.bl (!k)) ρ1
  | none => False) Qx
theorem de_notT (ha : DE X W a wa) : DE X W (.UnaryOp .Not a pos) (eNotT wa) := by
  obtain ⟨ta, pa, ra⟩ := ha
  refine ⟨_, pe_notT pa, fun σ H Z ρ Q Qx s w fx QQ q => ?_⟩
  refine ra σ H Z ρ _ Qx s w fx _ fun u x ρ1 Z1 H1 wx o => ?_
  cases h : truD x with
  | none => simp only [h] at wx
  | some k =>
    simp only [h] at wx
    exact ⟨k, truD_rep o.st.sub h o.rep, q _ _ ρ1 Z1 H1 wx ⟨o.st, rfl, o.st.nd, o.b.step⟩⟩
/-- a promise that asks what cannot be -/
def spNone : DSp := fun _ _ _ => False
theorem fn_none {P : Program} {w : World} {K : PySem.W.Frag} {mg : Str → Option Value} {base : Heap} {CX : CXT} {k : Nat} {f : Addr} {fd : FuncData} {ps : List Str} : FnOk P w K mg base CX k f fd ps (lift K spNone) :=
  ⟨fun vs H Q E h => by obtain ⟨_, _, _, _, _, _, _, h, _⟩ := h; exact h.elim, fun A outer s H args us vs Q E _ _ _ _ h => by obtain ⟨_, _, _, _, _, _, _, h, _⟩ := h; exact h.elim⟩
end
/-- the law's own promise: it gives True for a script of ints -/
def spLaw (n : Nat) : DSp := fun ds Q _ => ∃ ns : List Int, ds = [.lsk (ns.map D.int)] ∧ ns.length ≤ n ∧ ∀ ds', Q (.bl true) ds'
theorem reps_ints {K : PySem.W.Frag} {Z H : Hp} (ns : List Int) : Reps K Z H (ns.map D.int) (ns.map V.int) := by
  induction ns with
  | nil => rfl
  | cons n ns ih => exact ⟨.int n, ns.map V.int, rfl, rfl, ih⟩
theorem owns_ints (ns : List Int) : owns (ns.map D.int) = [] := owns_map_nil (fun _ => rfl) ns
theorem law_sp {K : PySem.W.Frag} {n : Nat} {H : Hp} {a : Addr} {ns : List Int} (hl : ns.length ≤ n) (hS : SqL K H a (ns.map V.int)) (E : XK) : lift K (spLaw n) [.ref a] H (fun v _ => v = .bl true) E := by
  refine ⟨H, [.lsk (ns.map D.int)], fun d _ => d = .bl true, fun _ _ => False, Sub.refl H, ⟨.ref a, [], rfl, ⟨owns_ints ns, a, _, rfl, hS, reps_ints ns⟩, rfl⟩, ?_, ⟨ns, rfl, hl, fun _ => rfl⟩, fun v d ds' Z' H' hq _ _ r _ _ => ?_, fun _ _ _ _ _ _ q => q.elim⟩
  · show (owns (ns.map D.int) ++ []).Nodup
    rw [owns_ints]; exact List.nodup_nil
  · rw [hq] at r; exact r
end DL
set_option Elab.async false
set_option linter.all false
set_option maxRecDepth 100000
namespace DL
open PySem PySem.Spec PyProof.Rows L2

/-! ### helps for words -/
theorem fin_sh : ∀ {ds : List D} {ρ : Env} {R : List D → Prop}, owns ds = [] → ds.length ≤ ρ.length → R ds → fin ds ρ R
  | [], ρ, R, _, _, r => r
  | d :: ds, [], R, _, h, r => absurd h (by simp)
  | d :: ds, o :: ρ, R, n, h, r => .inl ⟨(List.append_eq_nil_iff.mp n).1, fin_sh (List.append_eq_nil_iff.mp n).2 (by simpa using h) r⟩
/-- a pure expression's value -/
def PV (w : Pw) (ρ : Env) (d : D) : Prop := ∀ R : D → Prop, R d → w ρ R
section
variable {wa wb wp : Pw} {we wf : Ew} {wt wu : Tw} {ρ : Env} {x y d e : D} {i j : Int} {l : List D} {Q : D → Env → Prop} {Qx : QX} {R : D → Prop} {D0 : DEnds} {w1 w2 : Sw}
theorem pv_var {k : Nat} (h : ρ[k]? = some (some d)) : PV (pVar k) ρ d := fun R r => by unfold pVar; rw [h]; exact r
theorem pv_c : PV (pC d) ρ d := fun _ r => r
theorem pv_ix (ha : PV wa ρ x) (hb : PV wb ρ (.int i)) (hx : seqD x = some l) (h : atI l i = some d) : PV (pIx wa wb) ρ d := fun R r => ha _ (hb _ (by
  cases x with
  | tup l' => cases hx; simp only [h]; exact r
  | lst m l' => cases hx; simp only [h]; exact r
  | lsk l' => cases hx; simp only [h]; exact r
  | _ => cases hx))
theorem pv_I0 {g : Int → Int → D} (ha : PV wa ρ (.int i)) (hb : PV wb ρ (.int j)) : PV (pOp (rdI0 g) wa wb) ρ (g i j) := fun R r => ha _ (hb _ r)
theorem pv_I {C : Int → Int → Prop} {g : Int → Int → D} (ha : PV wa ρ (.int i)) (hb : PV wb ρ (.int j)) (hc : C i j) : PV (pOp (rdI C g) wa wb) ρ (g i j) := fun R r => ha _ (hb _ ⟨hc, r⟩)
theorem pv_neg (ha : PV wa ρ (.int i)) : PV (pNeg wa) ρ (.int (-i)) := fun R r => ha _ r
theorem pv_len (ha : PV wa ρ x) (hx : seqD x = some l) : PV (pLen wa) ρ (.int l.length) := fun R r => ha _ (by
  cases x with
  | tup l' => cases hx; exact r
  | lst m l' => cases hx; exact r
  | lsk l' => cases hx; exact r
  | _ => cases hx)
theorem e_pure (h : PV wp ρ d) (n : own d = []) (q : Q d ρ) : ePure wp ρ Q Qx := h _ ⟨n, q⟩
theorem t_pureI {g : Int → Int → Bool} {QT : Bool → Env → Prop} (ha : PV wa ρ (.int i)) (hb : PV wb ρ (.int j)) (q : QT (g i j) ρ) : tPure (rdI0 fun i j => .bl (g i j)) wa wb ρ QT Qx := ha _ (hb _ q)
theorem p_read (h : PV wp ρ d) (q : R d) : wp ρ R := h R q
/-- a branch by what is true -/
theorem itb {b : Bool} {A B : Prop} (h1 : b = true → A) (h2 : b = false → B) : if b = true then A else B := by
  cases b with
  | true => exact h1 rfl
  | false => exact h2 rfl
end
/-! one construct of a word opened -/
section
variable {wa wb wp wq : Pw} {we wf : Ew} {wt wu : Tw} {ws : Aw} {wi : Iw} {wl : Lw} {g : Gw} {ρ : Env} {x y d e : D} {i j : Nat} {l : List D} {Q : D → Env → Prop} {QB : Bool → Env → Prop} {QA : List Arg → Env → Prop} {Qx : QX} {R : D → Prop} {D0 : DEnds} {w1 w2 wb' : Sw} {dsp : DSp} {rd : RD} {gg : Int → Int → Int}
theorem xseq (h : w1 { D0 with nx := fun ρ' => w2 D0 ρ' } ρ) : sSeq w1 w2 D0 ρ := by rw [sSeq_eq]; exact h
theorem xnext (h : D0.nx ρ) : sNext D0 ρ := h
theorem xset (h : we ρ (fun d ρ' => D0.nx (ρ'.set i (some d))) D0.xx) : sSet i we D0 ρ := h
theorem xasg (h : we ρ (fun d ρ' => g d ρ' D0.nx) D0.xx) : sAsg we g D0 ρ := h
theorem xret (h : we ρ D0.rt D0.xx) : sRet we D0 ρ := h
theorem xdrop (h : we ρ (fun _ ρ' => D0.nx ρ') D0.xx) : sDrop we D0 ρ := h
theorem xif (h : wt ρ (fun b ρ' => if b = true then w1 D0 ρ' else w2 D0 ρ') D0.xx) : sIf wt w1 w2 D0 ρ := by rw [sIf_eq]; exact h
theorem xtru (h : we ρ (fun x ρ1 => match truD x with
  | some k => QB k ρ1
  | none => False) Qx) : tTru we ρ QB Qx := h
theorem xtruP (h : PV wp ρ d) {k : Bool} (e : truD d = some k) (q : QB k ρ) : tTruP wp ρ QB Qx := h _ (by rw [e]; exact q)
theorem xnot (h : wt ρ (fun b ρ1 => QB (!b) ρ1) Qx) : tNotD wt ρ QB Qx := h
theorem xand (h : wt ρ (fun b ρ1 => if b = true then wu ρ1 QB Qx else QB false ρ1) Qx) : tAndD wt wu ρ QB Qx := h
theorem xor (h : wt ρ (fun b ρ1 => if b = true then QB true ρ1 else wu ρ1 QB Qx) Qx) : tOrD wt wu ρ QB Qx := h
theorem xcall (h : ws ρ (fun as ρ1 => resA as ρ1 fun ds ρ2 => dsp ds (fun d ds' => giveA as ds' ρ2 fun ρ3 => Q d ρ3) (fun x ds' => giveA as ds' ρ2 fun ρ3 => Qx x ρ3)) Qx) : wCall dsp ws ρ Q Qx := h
theorem xval (h : we ρ (fun d ρ1 => ws ρ1 (fun as ρ2 => QA (.val d :: as) ρ2) Qx) Qx) : aVal we ws ρ QA Qx := h
theorem xnil (h : QA [] ρ) : aNil ρ QA Qx := h
theorem xop (h : we ρ (fun x ρ1 => own x = [] ∧ wf ρ1 (fun y ρ2 => rd x y fun z => Q z ρ2) Qx) Qx) : eOp rd we wf ρ Q Qx := h
theorem xkeep (h : we ρ (fun d ρ' => own (fr1 d) = [] ∧ Q (fr1 d) ρ') Qx) : eKeep we ρ Q Qx := h
theorem xfor (h : wi ρ (fun l ρ1 => ∃ Inv : Nat → Env → Prop, Inv 0 ρ1 ∧
  (∀ i d ρ2, l[i]? = some d → Inv i ρ2 → g d ρ2 fun ρ3 => w1 { D0 with nx := Inv (i + 1), ct := Inv (i + 1), bk := D0.nx } ρ3) ∧ (∀ ρ2, Inv l.length ρ2 → D0.nx ρ2)) D0.xx) : sFor wi g w1 D0 ρ := by rw [sFor_eq]; exact h
theorem xeif (h : wt ρ (fun k ρ1 => if k = true then we ρ1 Q Qx else wf ρ1 Q Qx) Qx) : eIf wt we wf ρ Q Qx := h
theorem xrg1 {QI : List D → Env → Prop} (h : ws ρ (fun as ρ' => match as with
  | [.val (.int j)] => Rg j ∧ QI (iseq 0 j.toNat) ρ'
  | _ => False) Qx) : iRg1 ws ρ QI Qx := h
/-- pure arguments, one after the other -/
theorem a_pure (h : PV wp ρ d) (n : own d = []) (q : ws ρ (fun as ρ2 => QA (.val d :: as) ρ2) Qx) : aVal (ePure wp) ws ρ QA Qx := h _ ⟨n, q⟩
theorem s_pure (h : PV wp ρ d) (n : own d = []) (q : D0.nx (ρ.set i (some d))) : sSet i (ePure wp) D0 ρ := h _ ⟨n, q⟩
theorem r_pure (h : PV wp ρ d) (n : own d = []) (q : D0.rt d ρ) : sRet (ePure wp) D0 ρ := h _ ⟨n, q⟩
theorem if_int {gb : Int → Int → Bool} {a b : Int} (ha : PV wa ρ (.int a)) (hb : PV wb ρ (.int b)) (h1 : gb a b = true → w1 D0 ρ) (h2 : gb a b = false → w2 D0 ρ) : sIf (tPure (rdI0 fun i j => .bl (gb i j)) wa wb) w1 w2 D0 ρ := xif (ha _ (hb _ (itb h1 h2)))
theorem for_rg1 {j : Int} (hw : ∀ R : List Arg → Env → Prop, R [.val (.int j)] ρ → ws ρ R D0.xx) (hj : Rg j) (Inv : Nat → Env → Prop) (h0 : Inv 0 ρ) (hs : ∀ (i : Nat) ρ2, i < j.toNat → Inv i ρ2 → g (.int (i : Int)) ρ2 fun ρ3 => w1 { D0 with nx := Inv (i + 1), ct := Inv (i + 1), bk := D0.nx } ρ3) (he : ∀ ρ2, Inv j.toNat ρ2 → D0.nx ρ2) : sFor (iRg1 ws) g w1 D0 ρ :=
  xfor (hw _ ⟨hj, Inv, h0, fun i d ρ2 hd hI => by
    obtain ⟨hi, rfl⟩ := iseq_get.mp hd
    rw [Int.zero_add]
    exact hs i ρ2 hi hI, fun ρ2 hI => by rw [iseq_len] at hI; exact he ρ2 hI⟩)
theorem for_rg2 {i0 j : Int} (hw : ∀ R : List Arg → Env → Prop, R [.val (.int i0), .val (.int j)] ρ → ws ρ R D0.xx) (hi : Rg i0) (hj : Rg j) (Inv : Nat → Env → Prop) (h0 : Inv 0 ρ) (hs : ∀ (i : Nat) ρ2, i < (j - i0).toNat → Inv i ρ2 → g (.int (i0 + (i : Int))) ρ2 fun ρ3 => w1 { D0 with nx := Inv (i + 1), ct := Inv (i + 1), bk := D0.nx } ρ3) (he : ∀ ρ2, Inv (j - i0).toNat ρ2 → D0.nx ρ2) : sFor (iRg2 ws) g w1 D0 ρ :=
  xfor (hw _ ⟨hi, hj, Inv, h0, fun i d ρ2 hd hI => by
    obtain ⟨hi, rfl⟩ := iseq_get.mp hd
    exact hs i ρ2 hi hI, fun ρ2 hI => by rw [iseq_len] at hI; exact he ρ2 hI⟩)
theorem for_seq {we : Ew} {d : D} {l : List D} (hw : ∀ R : D → Env → Prop, R d ρ → we ρ R D0.xx) (hd : d = .tup l ∨ d = .lst none l ∨ d = .lsk l) (Inv : Nat → Env → Prop) (h0 : Inv 0 ρ) (hs : ∀ (i : Nat) e ρ2, l[i]? = some e → Inv i ρ2 → g e ρ2 fun ρ3 => w1 { D0 with nx := Inv (i + 1), ct := Inv (i + 1), bk := D0.nx } ρ3) (he : ∀ ρ2, Inv l.length ρ2 → D0.nx ρ2) : sFor (iSq we) g w1 D0 ρ := by
  rcases hd with rfl | rfl | rfl <;> exact xfor (hw _ ⟨Inv, h0, hs, he⟩)
theorem xforB {f : Nat → D → D} {wi : Env → (Path → Addr → List D → Prop) → Prop} (h : wi ρ fun p a l => ∃ Inv : Nat → Env → Prop, Inv 0 ρ ∧
  (∀ i d ρ2, l[i]? = some d → Inv i ρ2 → getP ρ2 p = some (.lst (some a) l) ∧ g (f i d) ρ2 fun ρ3 => w1 { D0 with nx := Inv (i + 1), ct := Inv (i + 1), bk := D0.nx } ρ3) ∧ (∀ ρ2, Inv l.length ρ2 → getP ρ2 p = some (.lst (some a) l) ∧ D0.nx ρ2)) : sForB f wi g w1 D0 ρ := by rw [sForB_eq]; exact h
theorem rg_of {i : Int} (h1 : -1000000000000 ≤ i) (h2 : i ≤ 1000000000000) : Rg i := ⟨by omega, by omega⟩
/-- a comprehension whose parts change nothing: the kept items' values -/
def picked (l : List D) (c : Nat → D → Bool) (f : Nat → D → D) : Nat → List D
  | 0 => []
  | i + 1 => match l[i]? with
    | some d => if c i d = true then picked l c f i ++ [f i d] else picked l c f i
    | none => picked l c f i
theorem picked_len (l : List D) (c : Nat → D → Bool) (f : Nat → D → D) : ∀ i, (picked l c f i).length ≤ i
  | 0 => Nat.le_refl _
  | i + 1 => by
    have := picked_len l c f i
    unfold picked
    split
    · split
      · rw [List.length_append]; simp; omega
      · omega
    · omega
theorem e_lc {vs : List Nat} {l : List D} {ρ1 : Env} (c : Nat → D → Bool) (f : Nat → D → D) (hi : ∀ R : List D → Env → Prop, R l ρ1 → wi ρ R Qx) (hw : wipeE ρ1 vs = ρ1) (hl : l.length < 100000)
    (hs : ∀ (i : Nat) d, l[i]? = some d → g d ρ1 fun ρ3 => wipeE ρ3 vs = ρ1 ∧ ∀ QB : Bool → Env → Prop, QB (c i d) ρ3 → (c i d = true → ∀ Q : D → Env → Prop, Q (f i d) ρ3 → we ρ3 Q (fun _ _ => False)) ∧ wt ρ3 QB (fun _ _ => False))
    (q : ∀ p, Q (.lst (some p) (picked l c f l.length)) ρ1) (hg : ∀ d (P1 P2 : Env → Prop), (∀ ρ', P1 ρ' → P2 ρ') → g d ρ1 P1 → g d ρ1 P2) : eLc wi g wt we vs ρ Q Qx := by
  refine hi _ ⟨fun i acc ρ' => ρ' = ρ1 ∧ acc = picked l c f i, ⟨hw, rfl⟩, fun i d acc ρ2 hd hI => ?_, fun acc ρ2 hI p => ?_⟩
  · obtain ⟨rfl, rfl⟩ := hI
    rw [hw]
    refine hg d _ _ (fun ρ3 h => ?_) (hs i d hd)
    obtain ⟨hw3, h⟩ := h
    have hst : picked l c f (i + 1) = if c i d = true then picked l c f i ++ [f i d] else picked l c f i := by
      show (match l[i]? with | some d => if c i d = true then picked l c f i ++ [f i d] else picked l c f i | none => picked l c f i) = _
      rw [hd]
    have hlt := lt_of_get hd
    have hpl := picked_len l c f i
    refine (h _ ?_).2
    cases hc : c i d with
    | true =>
      rw [if_pos rfl]
      refine (h (fun _ _ => True) trivial).1 hc _ ⟨Nat.lt_of_lt_of_le (show (picked l c f i).length < 100000 by omega) (by decide), hw3, ?_⟩
      rw [hst, hc, if_pos rfl]
    | false =>
      rw [if_neg Bool.false_ne_true]
      refine ⟨hw3, ?_⟩
      rw [hst, hc, if_neg Bool.false_ne_true]
  · obtain ⟨rfl, rfl⟩ := hI
    exact q p
end
/-! comprehensions over what is walked -/
section
variable {wt : Tw} {we wa : Ew} {ws : Aw} {g : Gw} {ρ : Env} {Q : D → Env → Prop} {Qx : QX} {vs : List Nat}
abbrev LcStep (g : Gw) (wt : Tw) (we : Ew) (vs : List Nat) (Inv : Nat → List D → Env → Prop) (i : Nat) (d : D) (acc : List D) (ρ2 : Env) : Prop :=
  g d (wipeE ρ2 vs) fun ρ3 => wt ρ3 (fun b ρ4 => if b = true then we ρ4 (fun y ρ5 => acc.length < sizeLine ∧ Inv (i + 1) (acc ++ [y]) (wipeE ρ5 vs)) (fun _ _ => False) else Inv (i + 1) acc (wipeE ρ4 vs)) (fun _ _ => False)
theorem lc_rg1 {j : Int} (hw : ∀ R : List Arg → Env → Prop, R [.val (.int j)] ρ → ws ρ R Qx) (hj : Rg j) (Inv : Nat → List D → Env → Prop) (h0 : Inv 0 [] (wipeE ρ vs)) (hs : ∀ (i : Nat) acc ρ2, i < j.toNat → Inv i acc ρ2 → LcStep g wt we vs Inv i (.int (i : Int)) acc ρ2)
    (he : ∀ acc ρ2, Inv j.toNat acc ρ2 → ∀ p, Q (.lst (some p) acc) ρ2) : eLc (iRg1 ws) g wt we vs ρ Q Qx :=
  hw _ ⟨hj, Inv, h0, fun i d acc ρ2 hd hI => by
    obtain ⟨hi, rfl⟩ := iseq_get.mp hd
    rw [Int.zero_add]
    exact hs i acc ρ2 hi hI, fun acc ρ2 hI => by rw [iseq_len] at hI; exact he acc ρ2 hI⟩
theorem lc_rg2 {i0 j : Int} (hw : ∀ R : List Arg → Env → Prop, R [.val (.int i0), .val (.int j)] ρ → ws ρ R Qx) (hi : Rg i0) (hj : Rg j) (Inv : Nat → List D → Env → Prop) (h0 : Inv 0 [] (wipeE ρ vs)) (hs : ∀ (i : Nat) acc ρ2, i < (j - i0).toNat → Inv i acc ρ2 → LcStep g wt we vs Inv i (.int (i0 + (i : Int))) acc ρ2)
    (he : ∀ acc ρ2, Inv (j - i0).toNat acc ρ2 → ∀ p, Q (.lst (some p) acc) ρ2) : eLc (iRg2 ws) g wt we vs ρ Q Qx :=
  hw _ ⟨hi, hj, Inv, h0, fun i d acc ρ2 hd hI => by
    obtain ⟨hi, rfl⟩ := iseq_get.mp hd
    exact hs i acc ρ2 hi hI, fun acc ρ2 hI => by rw [iseq_len] at hI; exact he acc ρ2 hI⟩
theorem lc_seq {d : D} {l : List D} (hw : ∀ R : D → Env → Prop, R d ρ → wa ρ R Qx) (hd : d = .tup l ∨ d = .lst none l ∨ d = .lsk l) (Inv : Nat → List D → Env → Prop) (h0 : Inv 0 [] (wipeE ρ vs)) (hs : ∀ (i : Nat) e acc ρ2, l[i]? = some e → Inv i acc ρ2 → LcStep g wt we vs Inv i e acc ρ2)
    (he : ∀ acc ρ2, Inv l.length acc ρ2 → ∀ p, Q (.lst (some p) acc) ρ2) : eLc (iSq wa) g wt we vs ρ Q Qx := by
  rcases hd with rfl | rfl | rfl <;> exact hw _ ⟨Inv, h0, hs, he⟩
end
theorem atI_map {α : Type} {f : α → D} {xs : List α} {k : Nat} {x : α} (h : xs[k]? = some x) : atI (xs.map f) (k : Int) = some (f x) := atI_nat (by rw [List.getElem?_map, h]; rfl)
theorem getq_map {α β : Type} {f : α → β} {xs : List α} {k : Nat} {y : β} (h : (xs.map f)[k]? = some y) : ∃ x, xs[k]? = some x ∧ y = f x := by
  rw [List.getElem?_map] at h
  cases e : xs[k]? with
  | none => rw [e] at h; cases h
  | some x => rw [e] at h; exact ⟨x, rfl, (Option.some.inj h).symm⟩
/-- a list or a tuple that nobody owns -/
def isSeq (d : D) (l : List D) : Prop := d = .tup l ∨ d = .lst none l
theorem seq_own {d : D} {l : List D} (h : isSeq d l) (n : owns l = []) : own d = [] := by
  rcases h with rfl | rfl <;> exact n
theorem seq_seq {d : D} {l : List D} (h : isSeq d l) : seqD d = some l := by
  rcases h with rfl | rfl <;> rfl
theorem i_seq {wa : Ew} {ρ : Env} {Q : List D → Env → Prop} {Qx : QX} {d : D} {l : List D} (hd : isSeq d l) (h : ∀ R : D → Env → Prop, R d ρ → wa ρ R Qx) (q : Q l ρ) : iSq wa ρ Q Qx := by
  rcases hd with rfl | rfl <;> exact h _ q
abbrev Ends' (ds : List D) (Qd : D → List D → Prop) (Qx : XD → List D → Prop) : DEnds := { nx := fun ρ' => fin ds ρ' (Qd .non), rt := fun d ρ' => fin ds ρ' (Qd d), xx := fun x ρ' => fin ds ρ' (Qx x) }
theorem size_lt {n : Nat} (h : n < 100000) : n < sizeLine := Nat.lt_of_lt_of_le h (by decide)
theorem size_le {n : Nat} (h : n ≤ 100000) : n ≤ sizeLine := Nat.le_trans h (by decide)
end DL
set_option Elab.async false
set_option linter.all false
set_option maxRecDepth 100000
namespace DL
open PySem PySem.Spec PyProof.Rows L2

/-! ### // by any divisor but 0; gcd -/
def CDivG (_ j : Int) : Prop := j ≠ 0 ∧ j.natAbs.log2 < 9000
section
variable {X : Cx}
theorem op_fdivG : OpR X (binaryOp .FloorDiv) (rI CDivG fun i j => .int (i.fdiv j)) := opI fun i j _ _ _ _ _ hc q => floordiv_int hc.1 q (.inl (PyProof.noPylong_of_log2 hc.2))
theorem dop_fdivG : DOp X (binaryOp .FloorDiv) (rdI CDivG fun i j => .int (i.fdiv j)) := dop_I op_fdivG
def rdGcd : List D → (D → Prop) → Prop := fun ds Q => match ds with
  | [.int a, .int b] => Q (.int ((Nat.gcd a.natAbs b.natAbs : Nat) : Int))
  | _ => False
theorem dc_gcd : DCall X (.builtin "math.gcd") rdGcd := by
  refine ⟨_, cr_gcd, fun Z H ds vs Q hs rs w QQ q => ?_⟩
  unfold rdGcd at w
  split at w
  · rename_i a b
    obtain ⟨v, vr, e, r1, u, ur, e2, r2, r3⟩ := rs
    exact ⟨a, b, by rw [e, e2, show v = .int a from r1, show u = .int b from r2, show ur = [] from r3], q _ _ w rfl rfl⟩
  · exact w.elim
end
abbrev rdFdivG : RD := rdI CDivG fun i j => .int (i.fdiv j)
section
variable {X : Cx} {W : WX} {e : Expr} {es : List Expr} {ws : Aw} {pos : Pos} {dsp : DSp}
/-- f(e, ..), f a module's name for a built-in function -/
theorem de_callF {x : Str} {id : String} {p : Pos} {rd : List D → (D → Prop) → Prop} (hc : DCall X (.builtin id) rd) (hg : Gl X x) (hm : X.mg x = some (.builtin id)) (ha : DA X W (e :: es) ws) (hdb : (x == ("__debug__" : Str)) = false := by decide)
    (he : starEach (e :: es) X.env = (false, eval e X.env) :: starEach es X.env := by rfl) (hpl : (backTo pos (starEach es X.env)).any (·.1) = false := by rfl) : DE X W (.Call (.Name x p) (e :: es) [] pos) (eCallB rd ws) := by
  obtain ⟨r, hr, hd⟩ := hc
  obtain ⟨t, pa, ra⟩ := ha
  refine ⟨_, pe_callBfun hr hg hm pa hdb he hpl, fun σ H Z ρ Q Qx s w fx QQ q => ?_⟩
  refine ra σ H Z ρ _ Qx s w fx _ fun vs as ρ1 Z1 H1 wx o => ?_
  cases h : valsOf as with
  | none => simp only [h] at wx
  | some ds =>
    simp only [h] at wx
    obtain ⟨rs, ow⟩ := valsOf_rep h o.rep
    have st : Step Z H (eo ρ) Z1 H1 (eo ρ1) := o.step.sub fun a ha => List.mem_append_right _ ha
    exact hd Z1 H1 ds vs _ o.st.sub rs wx.2 QQ fun z d hq hr hn => q z d ρ1 Z1 H1 hq ⟨o.st, hr, nd_of_nil hn o.st.nd, by rw [hn]; exact st⟩
end

/-! ### defaults -/
/-- a def's promise where its last parameters are not written -/
def spDef (dds : List D) (dsp : DSp) : DSp := fun ds Q Qx => dsp (ds ++ dds) (fun d ds' => ∃ es, ds' = es ++ dds ∧ es.length = ds.length ∧ Q d es) (fun x ds' => ∃ es, ds' = es ++ dds ∧ es.length = ds.length ∧ Qx x es)
theorem owns_app : ∀ l r : List D, owns (l ++ r) = owns l ++ owns r
  | [], r => rfl
  | d :: l, r => by show own d ++ owns (l ++ r) = (own d ++ owns l) ++ owns r; rw [owns_app l r, List.append_assoc]
theorem reps_cut {K : PySem.W.Frag} {Z H : Hp} : ∀ {l r : List D} {vs ws : List V}, Reps K Z H (l ++ r) (vs ++ ws) → l.length = vs.length → Reps K Z H l vs
  | [], r, vs, ws, h, e => by cases vs with
    | nil => rfl
    | cons v vs => cases e
  | d :: l, r, vs, ws, h, e => by cases vs with
    | nil => cases e
    | cons v vs =>
      obtain ⟨u, ur, e1, r1, r2⟩ := h
      injection e1 with e2 e3
      subst e2 e3
      exact ⟨v, vs, rfl, r1, reps_cut r2 (by simpa using e)⟩
theorem lift_def {K : PySem.W.Frag} {dsp : DSp} {dds : List D} {dvs vs : List V} {H : Hp} {Q : VK} {E : XK} (hd : ∀ Z H, Reps K Z H dds dvs) (ho : owns dds = []) (h : lift K (spDef dds dsp) vs H Q E) : lift K dsp (vs ++ dvs) H Q E := by
  obtain ⟨Z, ds, Qd, Qx, sub, reps, nd, h, kn, kx⟩ := h
  have ow : ∀ l : List D, owns (l ++ dds) = owns l := fun l => by rw [owns_app, ho, List.append_nil]
  refine ⟨Z, ds ++ dds, _, _, sub, reps.append (hd Z H), by rw [ow]; exact nd, h, fun v d ds' Z' H' hq sub' reps' rd ndd st => ?_, fun x cls dd ds' Z' H' hq sub' reps' rx ndd st => ?_⟩
  · obtain ⟨es, rfl, hl, hq⟩ := hq
    rw [ow] at ndd st
    rw [ow] at st
    exact kn v d es Z' H' hq sub' (reps_cut reps' (by rw [hl, reps.length])) rd ndd st
  · obtain ⟨es, rfl, hl, hq⟩ := hq
    rw [ow] at ndd st
    rw [ow] at st
    exact kx x cls dd es Z' H' hq sub' (reps_cut reps' (by rw [hl, reps.length])) rx ndd st
section
variable {X : Cx} {W : WX} {e : Expr} {es : List Expr} {ws : Aw} {pos : Pos} {dsp : DSp}
/-- f(e, ..), the last parameters by default -/
theorem de_callD {k : Nat} {f : Addr} {fd : FuncData} {ps : List Str} {x : Str} {p : Pos} {dds : List D} {dvs : List V} {dus : List Value} (F : FnOk X.prog X.w X.K X.mg X.base (L2.CX X.prog X.w) k f fd ps (lift X.K dsp)) (hr : Room k X.A) (hg : Gl X x) (hm : X.mg x = some (.ref f)) (hk : PySem.W.keepIn X.K (.ref f) = true) (hb : Binds X.K fd ps dus) (hv : Vals dvs dus) (hd : ∀ Z H, Reps X.K Z H dds dvs) (ho : owns dds = [])
    (tk : Takes X W) (ha : DA X W (e :: es) ws) (hdb : (x == ("__debug__" : Str)) = false := by decide) (he : starEach (e :: es) X.env = (false, eval e X.env) :: starEach es X.env := by rfl) (hpl : (backTo pos (starEach es X.env)).any (·.1) = false := by rfl) :
    DE X W (.Call (.Name x p) (e :: es) [] pos) (wCall (spDef dds dsp) ws) := by
  obtain ⟨t, pa, ra⟩ := ha
  refine ⟨_, pe_callSD (E := L2.WE W) F hr hg hm hk hb hv (fun σ => passAt tk σ) pa hdb he hpl, fun σ H Z ρ Q Qx s w fx QQ q => ?_⟩
  refine ra σ H Z ρ _ Qx s w fx _ fun vs as ρ1 Z1 H1 wx o => ?_
  obtain ⟨ds, ρ2, h, s2, rs, nd, pm⟩ := resA_ok wx o.st o.rep o.nd
  exact lift_def hd ho (call_fit o s2 rs nd pm h fx q)
end
section
variable {P : Program} {w : World} {K : PySem.W.Frag} {mg : Str → Option Value} {base : Heap}
/-- a def with defaults, as fn_D -/
theorem fn_DD {x qual : Str} {st : Stmt} {f : Addr} {fd : FuncData} {N ps : List Str} {k : Nat} {dsp : DSp} {ws : Sw} {dvs : List V} {kws : List (Str × V)} (F : FunD K x qual (defArgs st) (defBody st) (defScope st) dvs kws f fd) (S : FnScope N ps (defScope st))
    (body : ∀ (cdv : Value) (A : Around) (outer : List PySem.Env) (s : Shared) (H : Hp) (E : XK), Room k (A.deeper (envOfC qual (defScope st) s.heap.objs.size f cdv)) → DSs (cxOf (L2.CX P w) P w K mg base N qual (defScope st) f cdv A outer s H E) (fun cls d _ H => E cls d H) (defBody st) ws)
    (len : ∀ ds Qd Qx, dsp ds Qd Qx → ds.length = ps.length)
    (word : ∀ ds Qd Qx, dsp ds Qd Qx → ws { nx := fun ρ' => fin ds ρ' (Qd .non), rt := fun d ρ' => fin ds ρ' (Qd d), xx := fun x ρ' => fin ds ρ' (Qx x) } (entry N ds)) :
    FnOk P w K mg base (L2.CX P w) (k + 1) f fd ps (lift K dsp) := by
  refine F.ok S (fun vs H Q E h => ?_) fun cdv A outer s H vs Q E hr h => ?_
  · obtain ⟨Z, ds, Qd, Qx, _, reps, _, h, _⟩ := h
    rw [reps.length, len ds Qd Qx h]
  · obtain ⟨Z, ds, Qd, Qx, hsub, reps, nd, h, kn, kx⟩ := h
    obtain ⟨t, p, r⟩ := body cdv A outer s H E hr
    refine ⟨t, p, ?_⟩
    have hl : ds.length ≤ N.length := by
      rw [len ds Qd Qx h]
      have e : N.take ps.length = ps := S.pre
      have e2 := congrArg List.length e
      rw [List.length_take] at e2
      omega
    have ep : eo (entry N ds) = owns ds := eo_start ds _
    refine r (L2.start N vs) H Z (entry N ds) _ _ (st_entry (ps := ps) hsub reps nd hl) (word ds Qd Qx h) ⟨fun σ' ρ' Z' H' q o => ?_, fun σ' ρ' Z' H' q o => q.elim, fun σ' ρ' Z' H' q o => q.elim, fun v d σ' ρ' Z' H' q o => ?_, fun σ' x cls dd ρ' Z' H' q o => ?_⟩
    · obtain ⟨ds', hq, rs, hs⟩ := fin_ok (σ := σ') q (fun i d hd => let ⟨v, _, rv⟩ := o.st.rep i d hd; ⟨v, rv⟩) reps o.step.zz
      have st := o.step
      rw [ep] at st
      exact kn .non .non ds' Z' H' hq o.st.sub rs rfl (o.st.nd.sublist hs) (st.sub fun a ha => hs.subset ha)
    · obtain ⟨ds', hq, rs, hs⟩ := fin_ok (σ := σ') q (fun i d hd => let ⟨v, _, rv⟩ := o.st.rep i d hd; ⟨v, rv⟩) reps o.step.zz
      have st := o.step
      rw [ep] at st
      exact kn v d ds' Z' H' hq o.st.sub rs o.rep (o.nd.sublist (List.Sublist.append_left hs _)) (st.sub fun a ha => (List.Sublist.append_left hs _).subset ha)
    · obtain ⟨ds', hq, rs, hs⟩ := fin_ok (σ := σ') q (fun i d hd => let ⟨v, _, rv⟩ := o.st.rep i d hd; ⟨v, rv⟩) reps o.step.zz
      have st := o.step
      rw [ep] at st
      exact kx x cls dd ds' Z' H' hq o.st.sub rs o.rep (o.st.nd.sublist hs) (st.sub fun a ha => hs.subset ha)
end
end DL
set_option Elab.async false
set_option linter.all false
set_option maxRecDepth 100000
namespace DL
open PySem PySem.Spec PyProof.Rows L2
/-! ### slices of lists and tuples, [::-1] of lists, stars -/
theorem owns_rev : ∀ {l : List D}, owns l = [] → owns l.reverse = []
  | l, h => owns_nil.mpr fun d hd => owns_nil.mp h d (List.mem_reverse.mp hd)
theorem owns_take {l : List D} {n : Nat} (h : owns l = []) : owns (l.take n) = [] := owns_nil.mpr fun d hd => owns_nil.mp h d (List.mem_of_mem_take hd)
theorem owns_drop {l : List D} {n : Nat} (h : owns l = []) : owns (l.drop n) = [] := owns_nil.mpr fun d hd => owns_nil.mp h d (List.mem_of_mem_drop hd)
theorem reps_rev {K : PySem.W.Frag} {Z H : Hp} : ∀ {l : List D} {vs : List V}, Reps K Z H l vs → Reps K Z H l.reverse vs.reverse
  | [], vs, r => by rw [show vs = [] from r]; rfl
  | d :: l, vs, r => by
    obtain ⟨v, vr, rfl, r1, r2⟩ := r
    rw [List.reverse_cons, List.reverse_cons]
    exact (reps_rev r2).append ⟨v, [], rfl, r1, rfl⟩
theorem reps_drop {K : PySem.W.Frag} {Z H : Hp} : ∀ {l : List D} {vs : List V} (n : Nat), Reps K Z H l vs → Reps K Z H (l.drop n) (vs.drop n)
  | l, vs, 0, r => r
  | [], vs, n + 1, r => by rw [show vs = [] from r]; rfl
  | d :: l, vs, n + 1, r => by
    obtain ⟨v, vr, rfl, r1, r2⟩ := r
    exact reps_drop n r2
def cutD (l : List D) (lo hi : Option Int) : List D := (l.drop (HT.sIx l.length 0 lo)).take (HT.sIx l.length l.length hi - HT.sIx l.length 0 lo)
theorem reps_cutD {K : PySem.W.Frag} {Z H : Hp} {l : List D} {vs : List V} {lo hi : Option Int} (r : Reps K Z H l vs) : Reps K Z H (cutD l lo hi) (cutV vs lo hi) := by
  unfold cutD cutV
  rw [r.length]
  exact (reps_drop _ r).take _
theorem owns_cutD {l : List D} {lo hi : Option Int} (h : owns l = []) : owns (cutD l lo hi) = [] := owns_take (owns_drop h)
section
variable {X : Cx} {W : WX} {e : Expr} {es : List Expr} {ws : Aw} {wp : Pw} {we : Ew} {pos p2 : Pos}
def eRevL (wp : Pw) : Ew := fun ρ Q _ => wp ρ fun d => match d with
  | .lst _ l => owns l = [] ∧ ∀ p, Q (.lst (some p) l.reverse) ρ
  | .lsk l => owns l = [] ∧ ∀ p, Q (.lst (some p) l.reverse) ρ
  | _ => False
theorem de_revL {k : Nat} {q1 q2 q3 : Pos} (ha : DP X e wp) : DE X W (.Subscript e (.Slice none none (some (.UnaryOp .USub (.Constant (.int 1) k q1) q2)) q3) pos) (eRevL wp) := by
  obtain ⟨t, pa, ra⟩ := ha
  refine ⟨_, pe_revL pa, fun σ H Z ρ Q Qx s w fx QQ q => ?_⟩
  refine ra σ H Z ρ _ s w _ fun v d wd rd => ?_
  cases d with
  | lst m l =>
    obtain ⟨a, vs, e, hv, hr⟩ := lst_read s.sub rd
    exact ⟨a, vs, by rw [e], SqL.of hv, fun p hp => q _ _ ρ Z _ (wd.2 p) (out_new s hp (reps_rev hr) (owns_rev wd.1))⟩
  | lsk l =>
    obtain ⟨_, a, vs, e, hv, hr⟩ := rd
    exact ⟨a, vs, by rw [e], sub_l s.sub hv, fun p hp => q _ _ ρ Z _ (wd.2 p) (out_new s hp (reps_rev hr) (owns_rev wd.1))⟩
  | _ => exact wd.elim
/-- .. of what an expression tells, a list -/
def eRevE (we : Ew) : Ew := fun ρ Q Qx => we ρ (fun d ρ' => match d with
  | .lst _ l => owns l = [] ∧ ∀ p, Q (.lst (some p) l.reverse) ρ'
  | _ => False) Qx
theorem de_revE {k : Nat} {q1 q2 q3 : Pos} (ha : DE X W e we) : DE X W (.Subscript e (.Slice none none (some (.UnaryOp .USub (.Constant (.int 1) k q1) q2)) q3) pos) (eRevE we) := by
  obtain ⟨t, pa, ra⟩ := ha
  refine ⟨_, pe_revL pa, fun σ H Z ρ Q Qx s w fx QQ q => ?_⟩
  refine ra σ H Z ρ _ Qx s w fx _ fun v d ρ1 Z1 H1 wd o => ?_
  have o' := o.frz
  have st : Step Z H (eo ρ) (fz Z1 H1 (own d)) H1 (eo ρ1) := o'.b.step
  cases d with
  | lst m l =>
    obtain ⟨hn, wd⟩ := wd
    have rd := o'.rep
    rw [lst_frz hn] at rd
    obtain ⟨a, vs, e, hv, hr⟩ := lst_read o'.st.sub rd
    exact ⟨a, vs, by rw [e], SqL.of hv, fun p hp => q _ _ ρ1 _ _ (wd p) ((out_new o'.st hp (reps_rev hr) (owns_rev hn)).pre st)⟩
  | _ => exact wd.elim
/-- a bound of a slice -/
def poW (w : Option Pw) (ρ : Env) (R : Option Int → Prop) : Prop := match w with
  | none => R none
  | some w => w ρ fun d => match d with
    | .int i => R (some i)
    | _ => False
def DPO (X : Cx) (e : Option Expr) (w : Option Pw) : Prop := ∃ t, PO X e t ∧ ∀ (σ : L2.St) (H Z : Hp) (ρ : Env) (R : Option Int → Prop), St X.K X.N.length Z H σ ρ → poW w ρ R → ∀ QQ : Option Int → Hp → Prop, (∀ o, R o → QQ o H) → t σ H QQ
theorem dpo_none : DPO X none none := ⟨_, po_none, fun σ H Z ρ R s w QQ q => q _ w⟩
theorem dpo_some (ha : DP X e wp) : DPO X (some e) (some wp) := by
  obtain ⟨t, pa, ra⟩ := ha
  refine ⟨_, po_some pa, fun σ H Z ρ R s w QQ q => ?_⟩
  refine ra σ H Z ρ _ s w _ fun v d wd rd => ?_
  cases d with
  | int i => exact ⟨i, rd, q _ wd⟩
  | _ => exact wd.elim
def eSlc (wp : Pw) (lo hi : Option Pw) : Ew := fun ρ Q _ => wp ρ fun d => match d with
  | .tup l => owns l = [] ∧ poW lo ρ fun i => poW hi ρ fun j => Q (.tup (cutD l i j)) ρ
  | .lst _ l => owns l = [] ∧ poW lo ρ fun i => poW hi ρ fun j => ∀ p, Q (.lst (some p) (cutD l i j)) ρ
  | .lsk l => owns l = [] ∧ poW lo ρ fun i => poW hi ρ fun j => ∀ p, Q (.lst (some p) (cutD l i j)) ρ
  | _ => False
theorem cutD_all {l : List D} {lo hi : Option Int} (h : HT.sIx l.length 0 lo = 0 ∧ HT.sIx l.length l.length hi = l.length) : cutD l lo hi = l := by
  unfold cutD
  rw [h.1, h.2, Nat.sub_zero, List.drop_zero, List.take_length]
theorem de_slc {l h : Option Expr} {lo hi : Option Pw} (ha : DP X e wp) (hl : DPO X l lo) (hh : DPO X h hi) : DE X W (.Subscript e (.Slice l h none p2) pos) (eSlc wp lo hi) := by
  obtain ⟨t, pa, ra⟩ := ha
  obtain ⟨tl, pl, rl⟩ := hl
  obtain ⟨th, ph, rh⟩ := hh
  refine ⟨_, pe_slice (SlR.or sl_list sl_tupA) pa pl ph, fun σ H Z ρ Q Qx s w fx QQ q => ?_⟩
  refine ra σ H Z ρ _ s w _ fun v d wd rd => ?_
  cases d with
  | tup l =>
    refine rl σ H Z ρ _ s wd.2 _ fun i wi => rh σ H Z ρ _ s wi _ fun j wj => ?_
    obtain ⟨_, a, vs, e, hs, hr⟩ := id rd
    refine .inr ⟨a, vs, by rw [e], sub_t s.sub hs, fun hall => ?_, fun _ p hp => q _ _ ρ _ _ wj (out_tup s hp (reps_cutD hr) (owns_cutD wd.1))⟩
    rw [hr.length] at hall
    rw [cutD_all hall] at wj
    rw [← e]; exact q _ _ ρ Z H wj (Out.same s rd wd.1)
  | lst m l =>
    refine rl σ H Z ρ _ s wd.2 _ fun i wi => rh σ H Z ρ _ s wi _ fun j wj => ?_
    obtain ⟨a, vs, e, hv, hr⟩ := lst_read s.sub rd
    exact .inl ⟨a, vs, by rw [e], SqL.of hv, fun p hp => q _ _ ρ Z _ (wj p) (out_new s hp (reps_cutD hr) (owns_cutD wd.1))⟩
  | lsk l =>
    refine rl σ H Z ρ _ s wd.2 _ fun i wi => rh σ H Z ρ _ s wi _ fun j wj => ?_
    obtain ⟨_, a, vs, e, hv, hr⟩ := rd
    exact .inl ⟨a, vs, by rw [e], sub_l s.sub hv, fun p hp => q _ _ ρ Z _ (wj p) (out_new s hp (reps_cutD hr) (owns_cutD wd.1))⟩
  | _ => exact wd.elim
/-- *e among arguments or items -/
def aStar (wp : Pw) (wr : Aw) : Aw := fun ρ Q Qx => wp ρ fun d => match seqD d with
  | some l => owns l = [] ∧ wr ρ (fun as ρ2 => Q (l.map Arg.val ++ as) ρ2) Qx
  | none => False
theorem areps_app {K : PySem.W.Frag} {Z H : Hp} : ∀ {l : List D} {vs ws : List V} {as : List Arg}, Reps K Z H l vs → AReps K Z H as ws → AReps K Z H (l.map Arg.val ++ as) (vs ++ ws)
  | [], vs, ws, as, r, a => by rw [show vs = [] from r]; exact a
  | d :: l, vs, ws, as, r, a => by
    obtain ⟨v, vr, rfl, r1, r2⟩ := r
    exact ⟨v, vr ++ ws, rfl, r1, areps_app r2 a⟩
theorem aowns_app : ∀ {l : List D} {as : List Arg}, owns l = [] → aowns (l.map Arg.val ++ as) = aowns as
  | [], as, _ => rfl
  | d :: l, as, h => by
    have h' := List.append_eq_nil_iff.mp h
    show own d ++ aowns (l.map Arg.val ++ as) = _
    rw [h'.1, aowns_app h'.2]; rfl
theorem da_star {wr : Aw} {p : Pos} (ha : DP X e wp) (hr : DA X W es wr) (hs : starEach (.Starred e p :: es) X.env = (true, eval e X.env) :: starEach es X.env := by rfl) : DA X W (.Starred e p :: es) (aStar wp wr) := by
  obtain ⟨ta, pa, ra⟩ := ha
  obtain ⟨tr, pr, rr⟩ := hr
  refine ⟨_, StX.pa_star pa pr hs, fun σ H Z ρ Q Qx s w fx QQ q => ?_⟩
  refine ra σ H Z ρ _ s w _ fun u d wd rd => ?_
  cases h : seqD d with
  | none => simp only [h] at wd
  | some l =>
    simp only [h] at wd
    obtain ⟨a, vs, e, hv, hr⟩ := seqD_rep s.sub h rd
    refine ⟨a, vs, e, hv.symm, rr σ H Z ρ _ Qx s wd.2 fx _ fun ws as ρ2 Z2 H2 wy o2 => ?_⟩
    have ow := aowns_app (as := as) wd.1
    exact q (vs ++ ws) (l.map Arg.val ++ as) ρ2 Z2 H2 wy ⟨o2.st, areps_app (Reps.sh o2.step.zz wd.1 hr) o2.rep, by rw [ow]; exact o2.nd, by rw [ow]; exact o2.step⟩
end
end DL
set_option Elab.async false
set_option linter.all false
set_option maxRecDepth 100000
namespace DL
open PySem PySem.Spec PyProof PyProof.Rows L2 HT
section
variable {prog : Program} {w : World} {A : Around} {E : Value → Shared → Prop} {s : Shared}
theorem adjust_rev (n : Nat) : Builtin.Slice.sliceAdjust none none (-1) (n : Int) = ((n : Int) - 1, -1) := by
  unfold Builtin.Slice.sliceAdjust
  rfl
theorem places_rev (n : Nat) : Builtin.Slice.slicePlaces ((n : Int) - 1) (-1) (-1) = n := by
  unfold Builtin.Slice.slicePlaces
  have h1 : ¬ ((-1 : Int) > 0) := by decide
  simp only [h1, if_false]
  rw [show (- -1 : Int) = 1 by decide, Int.ediv_one]
  split <;> omega
theorem sliceApplied_rev {sl : Addr} {vl vu vs : Value} {n : Nat} {Q : Int × Int × Nat → Shared → Prop} (hs : s.heap.IsSliceOf sl vl vu vs) (pl : IsPart vl none) (pu : IsPart vu none) (ps : IsPart vs (some (-1)))
    (h : Q ((n : Int) - 1, -1, n) s) : wpAny (model prog w) A (Builtin.Slice.sliceApplied (.ref sl) (pure (n : Int))) Q E s := by
  obtain ⟨os, hos, hcs, hds⟩ := id hs
  unfold Builtin.Slice.sliceApplied Builtin.Slice.sliceFields
  refine wpAny_bind (wpAny_bind (wpAny_field hos hds (x := vl) rfl (wpAny_bind (wpAny_field hos hds (x := vu) rfl (wpAny_bind (wpAny_field hos hds (x := vs) rfl (wpAny_pure ?_)))))))
  refine wpAny_bind (slicePart_ ps ?_)
  show wpAny _ _ (if ((-1 : Int) == 0) = true then _ else _) _ _ s
  rw [if_neg (by decide)]
  refine wpAny_bind (slicePart_ pl (wpAny_bind (slicePart_ pu (wpAny_bind (wpAny_pure ?_)))))
  show wpAny _ _ (match Builtin.Slice.sliceAdjust none none (-1) (n : Int) with | (lo, hi) => pure (lo, (-1 : Int), Builtin.Slice.slicePlaces lo hi (-1))) _ _ s
  rw [adjust_rev n]
  show wpAny _ _ (pure ((n : Int) - 1, (-1 : Int), Builtin.Slice.slicePlaces ((n : Int) - 1) (-1) (-1))) _ _ s
  rw [places_rev]
  exact wpAny_pure h
theorem filterMap_same {α β : Type} {f g : α → Option β} : ∀ {l : List α}, (∀ x ∈ l, f x = g x) → l.filterMap f = l.filterMap g
  | [], _ => rfl
  | x :: l, h => by
    rw [List.filterMap_cons, List.filterMap_cons, h x (List.mem_cons_self ..), filterMap_same (l := l) fun y hy => h y (List.mem_cons_of_mem _ hy)]
theorem pick_rev (xs : Array Value) : ((List.range xs.size).filterMap fun (m : Nat) => xs[(((xs.size : Nat) : Int) - 1 + (m : Int) * -1).toNat]?).toArray = xs.toList.reverse.toArray := by
  have e : (List.range xs.size).filterMap (fun (m : Nat) => xs[(((xs.size : Nat) : Int) - 1 + (m : Int) * -1).toNat]?) = ((List.range xs.size).map (fun k => xs.size - 1 - k)).filterMap (xs[·]?) := by
    rw [List.filterMap_map]
    apply filterMap_same
    intro m hm
    have := List.mem_range.mp hm
    show xs[(((xs.size : Nat) : Int) - 1 + (m : Int) * -1).toNat]? = xs[xs.size - 1 - m]?
    rw [show (((xs.size : Nat) : Int) - 1 + (m : Int) * -1).toNat = xs.size - 1 - m by omega]
  rw [e, PySem.W.krv_range, List.filterMap_reverse, PySem.W.krv_all]
theorem getItem_tuple_rev {t sl : Addr} {items : Array Value} {vl vu vs : Value} {Q : Value → Shared → Prop} (ht : IsTup s.heap t items) (hs : s.heap.IsSliceOf sl vl vu vs) (pl : IsPart vl none) (pu : IsPart vu none) (ps : IsPart vs (some (-1)))
    (h : Q (.ref s.heap.objs.size) { s with heap := s.heap.push { cls := .type "tuple", data := .seq items.toList.reverse.toArray } })
    (hsz : items.size ≤ sizeLine) : wpAny (model prog w) A (getItem (.ref t) (.ref sl)) Q E s := by
  have htake : sizeOk (.seq items.toList.reverse.toArray) := by
    show items.toList.reverse.toArray.size ≤ sizeLine
    rw [List.size_toArray, List.length_reverse, Array.length_toList]
    exact hsz
  obtain ⟨os, hos, hcs, hds⟩ := id hs
  have hTs : s.TypeIs (.ref sl) "slice" := ⟨os, hos, hcs⟩
  unfold getItem
  try with_reducible refine wpAny_holding ?_
  first | refine wpAny_bind (wpAny_pure ?_) | skip
  refine wpAny_bind (wpAny_sequenceKey ht.typeIs (by decide) ?_)
  refine wpAny_bind (wpAny_callSpecial?_slot (name := Str.ofString "__getitem__") ht.typeIs PyProof.Rows.slot_tuple_getitem
    (wpAny_call_entry PyProof.Rows.slot_tuple_getitem ht.typeIs entry_tuple_getitem ?_ (args_tuple_getitem _ _)))
  show wpAny _ _ (Builtin.Tuple.tupleItemsOf (.ref t) >>= _) _ _ s
  refine wpAny_bind (tupleItemsOf_ ht ?_)
  refine wpAny_bind (wpAny_typeOf hTs ?_)
  rw [if_pos (by decide)]
  refine wpAny_bind (sliceApplied_rev hs pl pu ps ?_)
  have hno : ¬ ((((((items.size : Nat) : Int) - 1) == 0 && (-1 : Int) == 1 && items.size == items.size)) = true) := by
    intro q
    rw [Bool.and_eq_true, Bool.and_eq_true] at q
    exact absurd q.1.2 (by decide)
  show wpAny _ _ (if ((((items.size : Nat) : Int) - 1) == 0 && (-1 : Int) == 1 && items.size == items.size) = true then _ else _) _ _ s
  rw [if_neg hno, pick_rev]
  first
    | exact wpAny_bind (m := Builtin.Tuple.tupleExact _) (wpAny_newObj_type (wpAny_pure ⟨_, rfl, wpAny_pure h⟩) htake)
    | exact wpAny_bind (m := Builtin.Tuple.tupleExact _) (wpAny_newObj_type (wpAny_bind (wpAny_pure (wpAny_pure ⟨_, rfl, wpAny_pure h⟩))) htake)
    | exact wpAny_bind (wpAny_bind (m := Builtin.Tuple.tupleExact _) (wpAny_newObj_type (wpAny_pure (wpAny_pure ⟨_, rfl, wpAny_pure h⟩)) htake))
    | exact wpAny_bind (wpAny_bind (m := Builtin.Tuple.tupleExact _) (wpAny_newObj_type (wpAny_pure ⟨_, rfl, wpAny_pure h⟩) htake))
end
/-! ### t[::-1] of a tuple -/
def tRevT (K : PySem.W.Frag) (te : TE) : TE := fun σ H Q => te σ H fun x H1 => ∃ a xs, x = .ref a ∧ SqT K H1 a xs ∧ ∀ p, H1 p = none → Q (.ref p) (upd H1 p (.tup xs.reverse))
section
variable {X : Cx}
theorem pe_revT {e : Expr} {te : TE} {k : Nat} {p1 p2 p3 pos : Pos} (he : PE X e te) : PE X (.Subscript e (.Slice none none (some (.UnaryOp .USub (.Constant (.int 1) k p1) p2)) p3) pos) (tRevT X.K te) := by
  refine ⟨fun pins s σ H Q I h => ?_⟩
  refine Subscript_ (thn (he.run pins s σ H _ I h) fun v s1 ⟨x, H1, I1, r1, q1⟩ => ?_)
  obtain ⟨a, xs, ex, hx, q⟩ := q1
  subst ex
  cases r1
  have hst : PO X (some (.UnaryOp .USub (.Constant (.int 1) k p1) p2)) (tPart (tUn (rU fun i => .int (-i)) (tC (.int 1)))) := po_some (pe_un un_neg pe_int)
  refine wpAny_Slice (thn (po_none.run pins s1 σ H1 (fun o H2 => o = none ∧ H2 = H1) I1 ⟨rfl, rfl⟩) fun vl s2 ⟨l, H2, I2, pl, el, e2⟩ => ?_)
  subst el e2
  refine thn (po_none.run pins s2 σ H2 (fun o H3 => o = none ∧ H3 = H2) I2 ⟨rfl, rfl⟩) fun vu s3 ⟨u, H3, I3, pu, eu, e3⟩ => ?_
  subst eu e3
  refine thn (hst.run pins s3 σ H3 (fun o H4 => o = some (-1) ∧ H4 = H3) I3 ⟨1, rfl, -1, rfl, rfl, rfl⟩) fun vs s4 ⟨o, H4, I4, ps, eo, e4⟩ => ?_
  subst eo e4
  have I5 : Inv X pins σ H4 { s4 with heap := s4.heap.push { cls := .type "slice", data := .fields #[vl, vu, vs] } } := I4.kept (t' := s4.toks) fun b ob q => Heap.get?_push_of_some _ q
  obtain ⟨its, r, ht, hz⟩ := I5.tuple hx
  have hlen := r.length
  show wpAny (model X.prog X.w) X.A (subscriptTail e (.Slice none none (some (.UnaryOp .USub (.Constant (.int 1) k p1) p2)) p3) (.ref a) (.ref s4.heap.objs.size)) (EP X pins σ Q) X.xe { s4 with heap := s4.heap.push { cls := .type "slice", data := .fields #[vl, vu, vs] } }
  refine tail_any (ops := [.ref a, .ref s4.heap.objs.size]) ht.typeIs (PyProof.Rows.slot_tuple_getitem.lookup) ?_ (by with_unfolding_all rfl)
  refine getItem_tuple_rev ht (Heap.IsSliceOf.new _ vl vu vs) pl pu ps ?_ (by rw [List.size_toArray]; omega)
  refine ⟨.ref _, _, I5.laid (t' := s4.toks) (o := .tup xs.reverse) (fun b ob q => Heap.get?_push_of_some _ q) (Nat.le_refl _) ?_, rfl, q _ (I5.hok.fresh (Nat.le_refl _))⟩
  exact ⟨by rw [List.length_reverse]; exact hz, _, r.reverse, IsTup.new _ _⟩
variable {W : WX} {e : Expr} {wp : Pw} {pos : Pos}
def eRevT (wp : Pw) : Ew := fun ρ Q _ => wp ρ fun d => match d with
  | .tup l => owns l = [] ∧ Q (.tup l.reverse) ρ
  | _ => False
theorem de_revT {k : Nat} {q1 q2 q3 : Pos} (ha : DP X e wp) : DE X W (.Subscript e (.Slice none none (some (.UnaryOp .USub (.Constant (.int 1) k q1) q2)) q3) pos) (eRevT wp) := by
  obtain ⟨t, pa, ra⟩ := ha
  refine ⟨_, pe_revT pa, fun σ H Z ρ Q Qx s w fx QQ q => ?_⟩
  refine ra σ H Z ρ _ s w _ fun v d wd rd => ?_
  cases d with
  | tup l =>
    obtain ⟨_, a, vs, e, hs, hr⟩ := id rd
    exact ⟨a, vs, by rw [e], sub_t s.sub hs, fun p hp => q _ _ ρ _ _ wd.2 (out_tup s hp (reps_rev hr) (owns_rev wd.1))⟩
  | _ => exact wd.elim
end
end DL
set_option Elab.async false
set_option linter.all false
set_option maxRecDepth 100000
/-! What the laws share: the pool of drawn numbers, and the comparison of data. -/
namespace DL
open PySem PySem.Spec PyProof.Rows L2

def W_law_pool  : Sw :=
    (sRet (eLst (aVal (eLc (iSq (ePure (pVar 0))) (gNm 1) tAll (eIf (tPure rdGe (pVar 1) (pC (.int 0))) (ePure (pOp rdMul (pC (.int 2)) (pVar 1))) (ePure (pOp rdSub (pOp rdMul (pNeg (pC (.int 2))) (pVar 1)) (pC (.int 1))))) [1]) (aVal (ePure (pC (.int 0))) (aVal (ePure (pC (.int 0))) (aVal (ePure (pC (.int 17))) aNil))))))
def W_law_take (sp_law_take : DSp) : Sw :=
    (sSeq (sIf (tPure rdGt (pIx (pVar 0) (pC (.int 2))) (pC (.int 0))) (sSeq (sSet 2 (eOp rdMod (eCallB rdInt (aVal (ePure (pIx (pVar 0) (pC (.int 2)))) aNil)) (ePure (pVar 1))))
    (sSeq (sSetIx (ePure (pOp rdFdiv (pIx (pVar 0) (pC (.int 2))) (pVar 1))) (lVar 0) (pC (.int 2)))
    (sRet (ePure (pVar 2))))) sNext)
    (sSeq (sSet 3 (ePure (pC (.int 0))))
    (sSeq (sIf (tPure rdLt (pIx (pVar 0) (pC (.int 1))) (pLen (pIx (pVar 0) (pC (.int 0))))) (sSet 3 (ePure (pIx (pIx (pVar 0) (pC (.int 0))) (pIx (pVar 0) (pC (.int 1)))))) sNext)
    (sSeq (sSetIx (ePure (pOp rdAdd (pIx (pVar 0) (pC (.int 1))) (pC (.int 1)))) (lVar 0) (pC (.int 1)))
    (sSeq (sIf (tPure rdGe (pVar 3) (pOp rdPow (pC (.int 10)) (pC (.int 18)))) (sSeq (sSetIx (ePure (pOp rdFdiv (pVar 3) (pC (.int 2)))) (lVar 0) (pC (.int 2)))
    (sRet (wCall sp_law_take (aLend (lVar 0) (aVal (ePure (pVar 1)) aNil))))) sNext)
    (sSeq (sSetIx (eOp rdMod (eCallB rdInt (aVal (ePure (pOp rdAdd (pOp rdAdd (pOp rdMul (pIx (pVar 0) (pC (.int 3))) (pC (.int 48271))) (pOp rdMul (pVar 3) (pC (.int 69621)))) (pOp rdMul (pIx (pVar 0) (pC (.int 1))) (pC (.int 613))))) aNil)) (ePure (pC (.int 2147483647)))) (lVar 0) (pC (.int 3)))
    (sSeq (sSet 4 (eOp rdMod (eCallB rdInt (aVal (ePure (pOp rdAdd (pOp rdAdd (pOp rdMul (pIx (pVar 0) (pC (.int 3))) (pIx (pVar 0) (pC (.int 3)))) (pOp rdMul (pIx (pVar 0) (pC (.int 3))) (pC (.int 7919)))) (pC (.int 104729)))) aNil)) (ePure (pC (.int 1000000007)))))
    (sRet (eOp rdMod (eCallB rdInt (aVal (ePure (pOp rdFdiv (pVar 4) (pC (.int 3)))) aNil)) (ePure (pVar 1)))))))))))
def W_law_is_integer  : Sw :=
    (sRet (eAnd (eCallB rdIsi (aVal (ePure (pVar 0)) (aVal (ePure (pC (.cv (.ty "int")))) aNil))) (eNot (eCallB rdIsi (aVal (ePure (pVar 0)) (aVal (ePure (pC (.cv (.ty "bool")))) aNil))))))
def W_law_same (sp_law_same : DSp) (sp_law_is_integer : DSp) : Sw :=
    (sSeq (sIf (tTru (eCallB rdIsi (aVal (ePure (pVar 1)) (aVal (ePure (pC (.cv (.ty "tuple")))) aNil)))) (sSeq (sIf (tOrD (tNotD (tTru (eCallB rdIsi (aVal (ePure (pVar 0)) (aVal (ePure (pC (.cv (.ty "tuple")))) aNil))))) (tPure rdNe (pLen (pVar 0)) (pLen (pVar 1)))) (sRet (ePure (pC (.bl false)))) sNext)
    (sRet (eCallB rdAll (aVal (eKeep (eLc (iRg1 (aVal (ePure (pLen (pVar 1))) aNil)) (gNm 2) tAll (wCall sp_law_same (aVal (ePure (pIx (pVar 0) (pVar 2))) (aVal (ePure (pIx (pVar 1) (pVar 2))) aNil))) [2])) aNil)))) sNext)
    (sSeq (sIf (tTru (eCallB rdIsi (aVal (ePure (pVar 1)) (aVal (ePure (pC (.cv (.ty "list")))) aNil)))) (sSeq (sIf (tOrD (tNotD (tTru (eCallB rdIsi (aVal (ePure (pVar 0)) (aVal (ePure (pC (.cv (.ty "list")))) aNil))))) (tPure rdNe (pLen (pVar 0)) (pLen (pVar 1)))) (sRet (ePure (pC (.bl false)))) sNext)
    (sRet (eCallB rdAll (aVal (eKeep (eLc (iRg1 (aVal (ePure (pLen (pVar 1))) aNil)) (gNm 2) tAll (wCall sp_law_same (aVal (ePure (pIx (pVar 0) (pVar 2))) (aVal (ePure (pIx (pVar 1) (pVar 2))) aNil))) [2])) aNil)))) sNext)
    (sSeq (sIf (tPure rdIsN (pVar 1) (pC .non)) (sRet (ePure (pOp rdIsN (pVar 0) (pC .non)))) sNext)
    (sSeq (sIf (tTru (eCallB rdIsi (aVal (ePure (pVar 1)) (aVal (ePure (pC (.cv (.ty "bool")))) aNil)))) (sRet (eAnd (eCallB rdIsi (aVal (ePure (pVar 0)) (aVal (ePure (pC (.cv (.ty "bool")))) aNil))) (ePure (pOp rdEq (pVar 0) (pVar 1))))) sNext)
    (sSeq (sIf (tTru (eCallB rdIsi (aVal (ePure (pVar 1)) (aVal (ePure (pC (.cv (.ty "str")))) aNil)))) (sRet (eAnd (eCallB rdIsi (aVal (ePure (pVar 0)) (aVal (ePure (pC (.cv (.ty "str")))) aNil))) (ePure (pOp rdEq (pVar 0) (pVar 1))))) sNext)
    (sRet (eAnd (wCall sp_law_is_integer (aVal (ePure (pVar 0)) aNil)) (ePure (pOp rdEq (pVar 0) (pVar 1))))))))))

/-! ### the pool -/
def pool (a q : Addr) (cs : List Int) (i r m : Int) : D := .lst (some a) [.lst (some q) (cs.map .int), .int i, .int r, .int m]
def Pool (a : Addr) (d : D) : Prop := ∃ q cs i r m, d = pool a q cs i r m ∧ 0 ≤ i ∧ 0 ≤ m ∧ m < 2147483647
def sp_pool : DSp := fun ds Q _ => ∃ ns : List Int, ds = [.lsk (ns.map .int)] ∧ ns.length ≤ 63 ∧ ∀ a d, Pool a d → Q d [.lsk (ns.map .int)]
def sp_take1 : DSp := fun ds Q _ => ∃ a q cs i r m many, ds = [pool a q cs i r m, .int many] ∧ 0 ≤ i ∧ 0 ≤ m ∧ m < 2147483647 ∧ 0 < r ∧ 0 < many ∧ many ≤ 1000000000000000000 ∧ ∀ x d', 0 ≤ x → x < many → Pool a d' → Q (.int x) [d', .int many]
def sp_take : DSp := fun ds Q _ => ∃ a d many, ds = [d, .int many] ∧ Pool a d ∧ 0 < many ∧ many ≤ 1000000000000000000 ∧ ∀ x d', 0 ≤ x → x < many → Pool a d' → Q (.int x) [d', .int many]
theorem divw {i j : Int} (h : 0 < j) (h2 : j ≤ 1000000000000000000) : CDivW i j := wide_div (b := 62) h (by omega) (by decide) (by decide)
theorem mul_small {i j : Int} (h : -1000000000000000000 ≤ j) (h2 : j ≤ 1000000000000000000) : MulOk i j := .inl (.inr ⟨by omega, by omega⟩)
theorem mul_smallL {i j : Int} (h : -1000000000000000000 ≤ i) (h2 : i ≤ 1000000000000000000) : MulOk i j := .inl (.inl ⟨by omega, by omega⟩)
theorem fin_pool {a : Addr} {d d' : D} {many : Int} {o : Option D} {ρ : Env} {R : List D → Prop} (h : addr d = some a) (h' : addr d' = some a) (r : R [d', .int many]) : fin [d, .int many] (some d' :: o :: ρ) R :=
  .inr ⟨a, d', h, rfl, h', .inl ⟨rfl, r⟩⟩
theorem pool_addr {a : Addr} {d : D} (h : Pool a d) : addr d = some a := by obtain ⟨q, cs, i, r, m, rfl, _⟩ := h; rfl
theorem word_take1 : ∀ ds Qd Qx, sp_take1 ds Qd Qx → W_law_take spNone (Ends' ds Qd Qx) (entry ["pool", "many", "digit", "cell", "mixed"] ds) := by
  rintro ds Qd Qx ⟨a, q, cs, i, r, m, many, rfl, hi, hm0, hm, hr, hmany, hmany2, h⟩
  refine xseq (if_int (pv_ix (pv_var rfl) pv_c rfl rfl) pv_c (fun h1 => ?_) (fun h1 => ?_))
  · refine xseq ⟨rfl, ?_⟩
    repeat refine ⟨rfl, ?_⟩
    refine ⟨hmany, xseq ?_⟩
    refine ⟨divw hmany hmany2, rfl, ?_⟩
    refine ⟨rfl, ?_⟩
    refine fin_pool rfl rfl (h _ _ (Int.emod_nonneg _ (by omega)) (Int.emod_lt_of_pos _ hmany) ⟨q, cs, i, _, m, rfl, hi, hm0, hm⟩)
  · exact absurd hr (of_decide_eq_false h1)
theorem word_take : ∀ ds Qd Qx, sp_take ds Qd Qx → W_law_take sp_take1 (Ends' ds Qd Qx) (entry ["pool", "many", "digit", "cell", "mixed"] ds) := by
  rintro ds Qd Qx ⟨a, d, many, rfl, ⟨q, cs, i, r, m, rfl, hi, hm0, hm⟩, hmany, hmany2, h⟩
  refine xseq (if_int (pv_ix (pv_var rfl) pv_c rfl rfl) pv_c (fun h1 => ?_) (fun h1 => ?_))
  · refine xseq ⟨rfl, ?_⟩
    repeat refine ⟨rfl, ?_⟩
    refine ⟨hmany, xseq ?_⟩
    refine ⟨divw hmany hmany2, rfl, ?_⟩
    refine ⟨rfl, ?_⟩
    refine fin_pool rfl rfl (h _ _ (Int.emod_nonneg _ (by omega)) (Int.emod_lt_of_pos _ hmany) ⟨q, cs, i, _, m, rfl, hi, hm0, hm⟩)
  · refine xseq ⟨rfl, xseq ?_⟩
    -- the cell that is read
    have key : ∀ cell : Int, (sSeq (sSetIx (ePure (pOp rdAdd (pIx (pVar 0) (pC (.int 1))) (pC (.int 1)))) (lVar 0) (pC (.int 1)))
      (sSeq (sIf (tPure rdGe (pVar 3) (pOp rdPow (pC (.int 10)) (pC (.int 18)))) (sSeq (sSetIx (ePure (pOp rdFdiv (pVar 3) (pC (.int 2)))) (lVar 0) (pC (.int 2)))
      (sRet (wCall sp_take1 (aLend (lVar 0) (aVal (ePure (pVar 1)) aNil))))) sNext)
      (sSeq (sSetIx (eOp rdMod (eCallB rdInt (aVal (ePure (pOp rdAdd (pOp rdAdd (pOp rdMul (pIx (pVar 0) (pC (.int 3))) (pC (.int 48271))) (pOp rdMul (pVar 3) (pC (.int 69621)))) (pOp rdMul (pIx (pVar 0) (pC (.int 1))) (pC (.int 613))))) aNil)) (ePure (pC (.int 2147483647)))) (lVar 0) (pC (.int 3)))
      (sSeq (sSet 4 (eOp rdMod (eCallB rdInt (aVal (ePure (pOp rdAdd (pOp rdAdd (pOp rdMul (pIx (pVar 0) (pC (.int 3))) (pIx (pVar 0) (pC (.int 3)))) (pOp rdMul (pIx (pVar 0) (pC (.int 3))) (pC (.int 7919)))) (pC (.int 104729)))) aNil)) (ePure (pC (.int 1000000007)))))
      (sRet (eOp rdMod (eCallB rdInt (aVal (ePure (pOp rdFdiv (pVar 4) (pC (.int 3)))) aNil)) (ePure (pVar 1)))))))) (Ends' [pool a q cs i r m, .int many] Qd Qx) [some (pool a q cs i r m), some (.int many), none, some (.int cell), none] := by
      intro cell
      refine xseq ⟨rfl, xseq (xif ?_)⟩
      refine ⟨⟨by decide, by decide, by decide⟩, itb (fun h2 => ?_) (fun h2 => ?_)⟩
      · have hc : 1000000000000000000 ≤ cell := by have := of_decide_eq_true h2; simpa using this
        refine xseq ⟨divw (by decide) (by decide), rfl, ?_⟩
        refine ⟨a, rfl, rfl, rfl, ?_⟩
        refine ⟨a, q, cs, i + 1, cell / 2, m, many, rfl, by omega, hm0, hm, by omega, hmany, hmany2, fun x d' h0 h1 hp => ⟨rfl, ?_⟩⟩
        exact fin_pool rfl (pool_addr hp) (h _ _ h0 h1 hp)
      · refine xseq ⟨mul_small (by decide) (by decide), mul_small (by decide) (by decide), mul_small (by decide) (by decide), rfl, ?_⟩
        refine ⟨rfl, rfl, rfl, (show (0 : Int) < 2147483647 by decide), xseq ?_⟩
        have hb0 : 0 ≤ (m * 48271 + cell * 69621 + (i + 1) * 613) % 2147483647 := Int.emod_nonneg _ (by decide)
        have hb1 : (m * 48271 + cell * 69621 + (i + 1) * 613) % 2147483647 < 2147483647 := Int.emod_lt_of_pos _ (by decide)
        refine ⟨mul_small (by omega) (by omega), mul_small (by decide) (by decide), rfl, ?_⟩
        refine ⟨rfl, rfl, rfl, (show (0 : Int) < 1000000007 by decide), ?_⟩
        refine ⟨divw (by decide) (by decide), rfl, ?_⟩
        refine ⟨rfl, rfl, rfl, hmany, ?_⟩
        exact fin_pool rfl rfl (h _ _ (Int.emod_nonneg _ (by omega)) (Int.emod_lt_of_pos _ hmany) ⟨q, cs, i + 1, r, _, rfl, by omega, hb0, hb1⟩)
    refine if_int (pv_ix (pv_var rfl) pv_c rfl rfl) (pv_len (l := cs.map .int) (pv_ix (pv_var rfl) pv_c rfl rfl) rfl) (fun h2 => ?_) (fun h2 => ?_)
    · have hlt : i < (cs.map D.int).length := of_decide_eq_true h2
      rw [List.length_map] at hlt
      have hat : atI (cs.map D.int) i = some (.int cs[i.toNat]) := by
        have := atI_map (f := D.int) (xs := cs) (k := i.toNat) (List.getElem?_eq_getElem (by omega))
        rwa [Int.toNat_of_nonneg hi] at this
      refine s_pure (pv_ix (l := cs.map .int) (pv_ix (pv_var rfl) pv_c rfl rfl) (pv_ix (pv_var rfl) pv_c rfl rfl) rfl hat) rfl ?_
      exact key _
    · exact key 0
theorem word_pool : ∀ ds Qd Qx, sp_pool ds Qd Qx → W_law_pool (Ends' ds Qd Qx) (entry ["script", "cell"] ds) := by
  rintro ds Qd Qx ⟨ns, rfl, hl, h⟩
  refine ⟨owns_ints ns, ?_⟩
  refine ⟨fun i acc ρ => ∃ cs : List Int, acc = cs.map .int ∧ cs.length = i ∧ ρ = [some (.lsk (ns.map .int)), none], ⟨[], rfl, rfl, rfl⟩, ?_, ?_⟩
  · rintro i e acc ρ2 he ⟨cs, rfl, hcs, rfl⟩
    obtain ⟨c, hc, rfl⟩ := getq_map he
    have hi := lt_of_get hc
    refine (itb (fun h1 => ?_) (fun h1 => ?_))
    · refine ⟨mul_smallL (by decide) (by decide), rfl, size_lt (by rw [List.length_map]; omega), ?_⟩
      exact ⟨cs ++ [2 * c], by rw [List.map_append]; rfl, by simp [hcs], rfl⟩
    · refine ⟨mul_smallL (by decide) (by decide), rfl, size_lt (by rw [List.length_map]; omega), ?_⟩
      exact ⟨cs ++ [-2 * c - 1], by rw [List.map_append]; rfl, by simp [hcs], rfl⟩
  · rintro acc ρ2 ⟨cs, rfl, hcs, rfl⟩ q
    refine ⟨rfl, rfl, rfl, size_le (by show 4 ≤ 100000; decide), fun a => ?_⟩
    exact fin_sh (by show owns (ns.map D.int) ++ [] = []; rw [owns_ints]; rfl) (Nat.le_of_ble_eq_true rfl) (h a _ ⟨q, cs, 0, 0, 17, rfl, by decide, by decide, by decide⟩)

/-! ### what a value is -/
section
variable {wp : Pw} {ρ : Env} {d : D} {Q : D → Env → Prop} {QB : Bool → Env → Prop} {Qx : QX} {t T : String} {b : Bool}
theorem e_isi (h : PV wp ρ d) (n : own d = []) (ht : tyD d = some t) (hk : kitB t T = some b) (q : Q (.bl b) ρ) : eCallB rdIsi (aVal (ePure wp) (aVal (ePure (pC (.cv (.ty T)))) aNil)) ρ Q Qx :=
  h _ ⟨n, rfl, by show own d ++ (own (D.cv (V.ty T)) ++ []) = []; rw [n]; rfl, by show rdIsi [d, .cv (.ty T)] _; simp only [rdIsi, ht, hk]; exact q⟩
theorem t_isi (h : PV wp ρ d) (n : own d = []) (ht : tyD d = some t) (hk : kitB t T = some b) (q : QB b ρ) : tTru (eCallB rdIsi (aVal (ePure wp) (aVal (ePure (pC (.cv (.ty T)))) aNil))) ρ QB Qx :=
  e_isi h n ht hk q
end
theorem t_isN (h : PV wp ρ d) (hn : isN d = some b) (q : QB b ρ) : tPure rdIsN wp (pC .non) ρ QB Qx := h _ (show rdIsN d .non (fun z => match z with
  | .bl k => QB k ρ
  | _ => False) by simp only [rdIsN, hn]; exact q)
theorem xenot {we : Ew} (h : we ρ (fun x ρ1 => match x with
  | .bl k => Q (.bl (!k)) ρ1
  | _ => False) Qx) : eNot we ρ Q Qx := h
theorem xeand {we wf : Ew} (h : we ρ (fun x ρ1 => match x with
  | .bl k => if k = true then wf ρ1 Q Qx else Q (.bl false) ρ1
  | _ => False) Qx) : eAnd we wf ρ Q Qx := h
def sp_int : DSp := fun ds Q _ => ∃ i : Int, ds = [.int i] ∧ Q (.bl true) [.int i]
theorem word_int : ∀ ds Qd Qx, sp_int ds Qd Qx → W_law_is_integer (Ends' ds Qd Qx) (entry ["actual"] ds) := by
  rintro ds Qd Qx ⟨i, rfl, h⟩
  refine xret (xeand (e_isi (b := true) (t := "int") (pv_var rfl) rfl rfl (by decide +kernel) (iteT (xenot (e_isi (b := false) (t := "int") (pv_var rfl) rfl rfl (by decide +kernel) ?_)))))
  exact fin_sh rfl (Nat.le_of_ble_eq_true rfl) h
/-- plain data of a depth -/
def Dat : Nat → D → Prop
  | _, .non => True
  | _, .bl _ => True
  | _, .int _ => True
  | _, .str _ => True
  | n + 1, .tup l => l.length < 100000 ∧ ∀ d ∈ l, Dat n d
  | n + 1, .lst none l => l.length < 100000 ∧ ∀ d ∈ l, Dat n d
  | _, _ => False
theorem Dat.own : ∀ {n : Nat} {d : D}, Dat n d → own d = []
  | _, .non, _ => rfl
  | _, .bl _, _ => rfl
  | _, .int _, _ => rfl
  | _, .str _, _ => rfl
  | n + 1, .tup l, h => owns_nil.mpr fun d hd => Dat.own (h.2 d hd)
  | n + 1, .lst none l, h => owns_nil.mpr fun d hd => Dat.own (h.2 d hd)
  | 0, .tup l, h => by unfold Dat at h; exact h.elim
  | 0, .lst none l, h => by unfold Dat at h; exact h.elim
  | 0, .lst (some _) l, h => by unfold Dat at h; exact h.elim
  | n + 1, .lst (some _) l, h => by unfold Dat at h; exact h.elim
  | 0, .hole, h => by unfold Dat at h; exact h.elim
  | n + 1, .hole, h => by unfold Dat at h; exact h.elim
  | 0, .cv _, h => by unfold Dat at h; exact h.elim
  | n + 1, .cv _, h => by unfold Dat at h; exact h.elim
  | 0, .lsk _, h => by unfold Dat at h; exact h.elim
  | n + 1, .lsk _, h => by unfold Dat at h; exact h.elim
  | 0, .dct _ _ _, h => by unfold Dat at h; exact h.elim
  | n + 1, .dct _ _ _, h => by unfold Dat at h; exact h.elim
  | 0, .ins _ _ _ _, h => by unfold Dat at h; exact h.elim
  | n + 1, .ins _ _ _ _, h => by unfold Dat at h; exact h.elim
def sp_same : Nat → DSp
  | 0 => spNone
  | n + 1 => fun ds Q _ => ∃ x, ds = [x, x] ∧ Dat n x ∧ Q (.bl true) [x, x]
theorem blsOf_true : ∀ n : Nat, blsOf (List.replicate n (D.bl true)) = some (List.replicate n true)
  | 0 => rfl
  | n + 1 => by rw [List.replicate_succ]; show (blsOf (List.replicate n (D.bl true))).map (true :: ·) = _; rw [blsOf_true n]; rfl
/-- all([same(actual[k], due[k]) for k in range(len(due))]) -/
theorem e_alls {n : Nat} {x : D} {l : List D} {Q : D → Env → Prop} {Qx : QX} (hx : seqD x = some l) (hl : l.length < 100000) (hd : ∀ d ∈ l, Dat n d) (ox : own x = []) (q : Q (.bl true) [some x, some x, none]) :
    eCallB rdAll (aVal (eKeep (eLc (iRg1 (aVal (ePure (pLen (pVar 1))) aNil)) (gNm 2) tAll (wCall (sp_same (n + 1)) (aVal (ePure (pIx (pVar 0) (pVar 2))) (aVal (ePure (pIx (pVar 1) (pVar 2))) aNil))) [2])) aNil) [some x, some x, none] Q Qx := by
  refine xval (xkeep ?_)
  refine e_pure (Qx := Qx) (pv_len (pv_var rfl) hx) rfl ?_
  refine ⟨rg_of (by omega) (by omega), ?_⟩
  rw [show ((l.length : Int)).toNat = l.length by omega]
  refine ⟨fun i acc ρ => acc = List.replicate i (.bl true) ∧ ρ = [some x, some x, none], ⟨rfl, rfl⟩, ?_, ?_⟩
  · rintro i e acc ρ2 he ⟨rfl, rfl⟩
    obtain ⟨hi, rfl⟩ := iseq_get.mp he
    rw [Int.zero_add]
    obtain ⟨c, hc⟩ : ∃ c, l[i]? = some c := ⟨_, List.getElem?_eq_getElem hi⟩
    have dc := hd c (List.mem_of_getElem? hc)
    have hat : atI l (i : Int) = some c := atI_nat hc
    show wCall (sp_same (n + 1)) (aVal (ePure (pIx (pVar 0) (pVar 2))) (aVal (ePure (pIx (pVar 1) (pVar 2))) aNil)) [some x, some x, some (.int (i : Int))] _ _
    refine xcall (a_pure (pv_ix (pv_var rfl) (pv_var rfl) hx hat) dc.own (a_pure (pv_ix (pv_var rfl) (pv_var rfl) hx hat) dc.own ?_))
    refine ⟨c, rfl, dc, ?_⟩
    refine ⟨size_lt (by rw [List.length_replicate]; omega), ?_, rfl⟩
    rw [List.replicate_succ']
  · rintro acc ρ2 ⟨rfl, rfl⟩ p
    rw [iseq_len]
    have ot : owns (List.replicate l.length (D.bl true)) = [] := owns_nil.mpr fun d hd => by rw [List.eq_of_mem_replicate hd]; rfl
    refine ⟨ot, ?_, ?_⟩
    · show owns (List.replicate l.length (D.bl true)) ++ [] = []; rw [ot]; rfl
    · show (match blsOf (List.replicate l.length (D.bl true)) with
        | some ns => Q (.bl (ns.all id)) _
        | none => False)
      rw [blsOf_true]
      show Q (.bl ((List.replicate l.length true).all id)) _
      rw [show (List.replicate l.length true).all id = true by simp]; exact q
theorem word_same {n : Nat} : ∀ ds Qd Qx, sp_same (n + 1) ds Qd Qx → W_law_same (sp_same n) sp_int (Ends' ds Qd Qx) (entry ["actual", "due", "k"] ds) := by
  rintro ds Qd Qx ⟨x, rfl, dx, h⟩
  have ox := dx.own
  have fin0 : fin [x, x] ([some x, some x, none]) (Qd (.bl true)) := fin_sh (by show own x ++ (own x ++ []) = []; rw [ox]; rfl) (Nat.le_of_ble_eq_true rfl) h
  cases x with
  | tup l =>
    cases n with
    | zero => exact dx.elim
    | succ n =>
    refine xseq (xif (t_isi (b := true) (t := "tuple") (pv_var rfl) ox rfl (by decide +kernel) (iteT (xseq (xif (xor (xnot (t_isi (b := true) (t := "tuple") (pv_var rfl) ox rfl (by decide +kernel) (iteF ?_)))))))))
    refine (pv_len (l := l) (pv_var rfl) rfl) _ ((pv_len (l := l) (pv_var rfl) rfl) _ ⟨rfl, ?_⟩)
    rw [show (!decide (V.int l.length = V.int l.length)) = false by simp]
    exact iteF (xret (e_alls (x := .tup l) rfl dx.1 dx.2 ox fin0))
  | lst m l =>
    cases m with
    | none =>
      cases n with
      | zero => exact dx.elim
      | succ n =>
      refine xseq (xif (t_isi (b := false) (t := "list") (pv_var rfl) ox rfl (by decide +kernel) (iteF (xseq (xif (t_isi (b := true) (t := "list") (pv_var rfl) ox rfl (by decide +kernel) (iteT (xseq (xif (xor (xnot (t_isi (b := true) (t := "list") (pv_var rfl) ox rfl (by decide +kernel) (iteF ?_)))))))))))))
      refine (pv_len (l := l) (pv_var rfl) rfl) _ ((pv_len (l := l) (pv_var rfl) rfl) _ ⟨rfl, ?_⟩)
      rw [show (!decide (V.int l.length = V.int l.length)) = false by simp]
      exact iteF (xret (e_alls (x := .lst none l) rfl dx.1 dx.2 ox fin0))
    | some a => unfold Dat at dx; exact dx.elim
  | non =>
    refine xseq (xif (t_isi (b := false) (t := "NoneType") (pv_var rfl) rfl rfl (by decide +kernel) (iteF (xseq (xif (t_isi (b := false) (t := "NoneType") (pv_var rfl) rfl rfl (by decide +kernel) (iteF (xseq (xif (t_isN (b := true) (pv_var rfl) rfl (iteT ?_)))))))))))
    exact ⟨rfl, fin0⟩
  | bl c =>
    refine xseq (xif (t_isi (b := false) (t := "bool") (pv_var rfl) rfl rfl (by decide +kernel) (iteF (xseq (xif (t_isi (b := false) (t := "bool") (pv_var rfl) rfl rfl (by decide +kernel) (iteF (xseq (xif (t_isN (b := false) (pv_var rfl) rfl (iteF ?_)))))))))))
    refine xseq (xif (t_isi (b := true) (t := "bool") (pv_var rfl) rfl rfl (by decide +kernel) (iteT ?_)))
    refine xret (xeand (e_isi (b := true) (t := "bool") (pv_var rfl) rfl rfl (by decide +kernel) (iteT ?_)))
    refine ⟨rfl, rfl, ?_⟩
    rw [show decide (V.bl c = V.bl c) = true by simp]; exact fin0
  | str c =>
    refine xseq (xif (t_isi (b := false) (t := "str") (pv_var rfl) rfl rfl (by decide +kernel) (iteF (xseq (xif (t_isi (b := false) (t := "str") (pv_var rfl) rfl rfl (by decide +kernel) (iteF (xseq (xif (t_isN (b := false) (pv_var rfl) rfl (iteF ?_)))))))))))
    refine xseq (xif (t_isi (b := false) (t := "str") (pv_var rfl) rfl rfl (by decide +kernel) (iteF (xseq (xif (t_isi (b := true) (t := "str") (pv_var rfl) rfl rfl (by decide +kernel) (iteT ?_)))))))
    refine xret (xeand (e_isi (b := true) (t := "str") (pv_var rfl) rfl rfl (by decide +kernel) (iteT ?_)))
    refine ⟨rfl, rfl, ?_⟩
    rw [show decide (V.str c = V.str c) = true by simp]; exact fin0
  | int c =>
    refine xseq (xif (t_isi (b := false) (t := "int") (pv_var rfl) rfl rfl (by decide +kernel) (iteF (xseq (xif (t_isi (b := false) (t := "int") (pv_var rfl) rfl rfl (by decide +kernel) (iteF (xseq (xif (t_isN (b := false) (pv_var rfl) rfl (iteF ?_)))))))))))
    refine xseq (xif (t_isi (b := false) (t := "int") (pv_var rfl) rfl rfl (by decide +kernel) (iteF (xseq (xif (t_isi (b := false) (t := "int") (pv_var rfl) rfl rfl (by decide +kernel) (iteF ?_)))))))
    refine xnext ?_
    dsimp only
    refine xret ?_
    refine xeand (xcall ?_)
    refine a_pure (pv_var rfl) rfl ?_
    refine ⟨c, rfl, rfl, rfl, ?_⟩
    rw [show decide (V.int c = V.int c) = true by simp]; exact fin0
  | _ => unfold Dat at dx; exact dx.elim
/-- a number drawn from the pool in slot i -/
def TkQ (i : Nat) (a : Addr) (Q : D → Env → Prop) (Qx : QX) : D → Env → Prop := fun m ρ1 => resA [.lend (i, []) a, .val m] ρ1 fun ds ρ2 => sp_take ds (fun d ds' => giveA [.lend (i, []) a, .val m] ds' ρ2 fun ρ3 => Q d ρ3) (fun x ds' => giveA [.lend (i, []) a, .val m] ds' ρ2 fun ρ3 => Qx x ρ3)
theorem tkq {ρ : Env} {Q : D → Env → Prop} {Qx : QX} {a : Addr} {d : D} {many : Int} {i : Nat} (hi : ρ[i]? = some (some d)) (hp : Pool a d) (h1 : 0 < many) (h2 : many ≤ 1000000000000000000)
    (q : ∀ x d', 0 ≤ x → x < many → Pool a d' → Q (.int x) (ρ.set i (some d'))) : TkQ i a Q Qx (.int many) ρ := by
  have hil : i < ρ.length := lt_of_get hi
  have e1 : ∀ e, setP ρ (i, []) e = ρ.set i (some e) := fun e => by unfold setP; simp only [hi]; rfl
  have e2 : getP ρ (i, []) = some d := by unfold getP; simp only [hi]; rfl
  have e3 : ∀ x e, setP (ρ.set i (some x)) (i, []) e = ρ.set i (some e) := fun x e => by
    unfold setP
    simp only [getq_set_self hil, List.set_set]; rfl
  have e4 : ∀ x, getP (ρ.set i (some x)) (i, []) = some x := fun x => by
    unfold getP
    simp only [getq_set_self hil]; rfl
  show (match getP ρ (i, []) with
    | some d => _
    | none => False)
  rw [e2]
  refine ⟨pool_addr hp, ?_⟩
  refine ⟨a, d, many, rfl, hp, h1, h2, fun x d' h0 hx hp' => ?_⟩
  show getP (setP ρ (i, []) (lent a)) (i, []) = some (lent a) ∧ Q (.int x) (setP (setP ρ (i, []) (lent a)) (i, []) d')
  rw [e1, e4, e3]
  exact ⟨rfl, q x d' h0 hx hp'⟩
theorem c_takeE {ρ : Env} {Q : D → Env → Prop} {Qx : QX} {a : Addr} {d : D} {we : Ew} {i : Nat} (hi : ρ[i]? = some (some d)) (hp : Pool a d) (h : we ρ (TkQ i a Q Qx) Qx) : wCall sp_take (aLend (lVar i) (aVal we aNil)) ρ Q Qx := by
  refine xcall ?_
  show (match ρ[i]? with
    | some (some d) => _
    | _ => False)
  rw [hi]
  exact ⟨a, pool_addr hp, h⟩
theorem c_take {ρ : Env} {Q : D → Env → Prop} {Qx : QX} {a : Addr} {d : D} {many : Int} {wm : Pw} {i : Nat} (hi : ρ[i]? = some (some d)) (hp : Pool a d) (hm : PV wm ρ (.int many)) (h1 : 0 < many) (h2 : many ≤ 1000000000000000000)
    (q : ∀ x d', 0 ≤ x → x < many → Pool a d' → Q (.int x) (ρ.set i (some d'))) : wCall sp_take (aLend (lVar i) (aVal (ePure wm) aNil)) ρ Q Qx :=
  c_takeE hi hp (e_pure hm rfl (tkq hi hp h1 h2 q))
end DL
set_option Elab.async false
set_option linter.all false
set_option maxHeartbeats 2000000
namespace DL
open PySem PySem.Spec PyProof.Rows L2
/-! ### fractions: the words of quaybest's own, for any law -/
def W_common_divisor  : Sw :=
    (sRet (eCallB rdGcd (aVal (ePure (pVar 0)) (aVal (ePure (pVar 1)) aNil))))
def W_fraction (sp_common_divisor : DSp) : Sw :=
    (sSeq (sSet 2 (wCall sp_common_divisor (aVal (ePure (pVar 0)) (aVal (ePure (pVar 1)) aNil))))
    (sSeq (sIf (tPure rdLt (pVar 1) (pC (.int 0))) (sSet 2 (ePure (pNeg (pVar 2)))) sNext)
    (sRet (eTup (aVal (ePure (pOp rdFdivG (pVar 0) (pVar 2))) (aVal (ePure (pOp rdFdivG (pVar 1) (pVar 2))) aNil))))))
def W_added (sp_fraction : DSp) : Sw :=
    (sRet (wCall sp_fraction (aVal (ePure (pOp rdAdd (pOp rdMul (pIx (pVar 0) (pC (.int 0))) (pIx (pVar 1) (pC (.int 1)))) (pOp rdMul (pIx (pVar 1) (pC (.int 0))) (pIx (pVar 0) (pC (.int 1)))))) (aVal (ePure (pOp rdMul (pIx (pVar 0) (pC (.int 1))) (pIx (pVar 1) (pC (.int 1))))) aNil))))
def W_subtracted (sp_fraction : DSp) : Sw :=
    (sRet (wCall sp_fraction (aVal (ePure (pOp rdSub (pOp rdMul (pIx (pVar 0) (pC (.int 0))) (pIx (pVar 1) (pC (.int 1)))) (pOp rdMul (pIx (pVar 1) (pC (.int 0))) (pIx (pVar 0) (pC (.int 1)))))) (aVal (ePure (pOp rdMul (pIx (pVar 0) (pC (.int 1))) (pIx (pVar 1) (pC (.int 1))))) aNil))))
def W_multiplied (sp_fraction : DSp) : Sw :=
    (sRet (wCall sp_fraction (aVal (ePure (pOp rdMul (pIx (pVar 0) (pC (.int 0))) (pIx (pVar 1) (pC (.int 0))))) (aVal (ePure (pOp rdMul (pIx (pVar 0) (pC (.int 1))) (pIx (pVar 1) (pC (.int 1))))) aNil))))
def W_divided (sp_fraction : DSp) : Sw :=
    (sRet (wCall sp_fraction (aVal (ePure (pOp rdMul (pIx (pVar 0) (pC (.int 0))) (pIx (pVar 1) (pC (.int 1))))) (aVal (ePure (pOp rdMul (pIx (pVar 0) (pC (.int 1))) (pIx (pVar 1) (pC (.int 0))))) aNil))))
def W_is_less  : Sw :=
    (sRet (ePure (pOp rdLt (pOp rdMul (pIx (pVar 0) (pC (.int 0))) (pIx (pVar 1) (pC (.int 1)))) (pOp rdMul (pIx (pVar 1) (pC (.int 0))) (pIx (pVar 0) (pC (.int 1)))))))
/-! ### widths -/
def Wd (k : Nat) (i : Int) : Prop := i.natAbs < 2 ^ k
instance {k : Nat} {i : Int} : Decidable (Wd k i) := inferInstanceAs (Decidable (i.natAbs < 2 ^ k))
theorem Wd.mono {k m : Nat} {i : Int} (h : Wd k i) (hk : k ≤ m) : Wd m i := Nat.lt_of_lt_of_le h (Nat.pow_le_pow_right (by decide) hk)
theorem Wd.mul {k m : Nat} {i j : Int} (h : Wd k i) (h2 : Wd m j) : Wd (k + m) (i * j) := wide_lt h h2
theorem Wd.neg {k : Nat} {i : Int} (h : Wd k i) : Wd k (-i) := by unfold Wd; rw [Int.natAbs_neg]; exact h
theorem Wd.add {k : Nat} {i j : Int} (h : Wd k i) (h2 : Wd k j) : Wd (k + 1) (i + j) := by
  unfold Wd at *
  have := Int.natAbs_add_le i j
  rw [Nat.pow_succ]; omega
theorem Wd.sub {k : Nat} {i j : Int} (h : Wd k i) (h2 : Wd k j) : Wd (k + 1) (i - j) := by rw [Int.sub_eq_add_neg]; exact h.add h2.neg
theorem mulw {k m : Nat} {i j : Int} (h : Wd k i) (h2 : Wd m j) (h0 : 0 < k) (h1 : 0 < m) (h3 : k + m ≤ 1000000) : MulOk i j := .inr (wide_mul h h2 h0 h1 h3)
theorem wd_le {k : Nat} {a b : Int} (h : a.natAbs ≤ b.natAbs) (hb : Wd k b) : Wd k a := Nat.lt_of_le_of_lt h hb
/-! ### fractions -/
def gc (n d : Int) : Int := (Nat.gcd n.natAbs d.natAbs : Nat)
def FR (n d : Int) : Int × Int := if d < 0 then (-1 * n / gc n d, -1 * d / gc n d) else (1 * n / gc n d, 1 * d / gc n d)
def pr (p : Int × Int) : D := .tup [.int p.1, .int p.2]
theorem gc_pos {n d : Int} (h : d ≠ 0) : 0 < gc n d := by
  have : 0 < Nat.gcd n.natAbs d.natAbs := Nat.gcd_pos_of_pos_right _ (by omega)
  unfold gc; omega
theorem gc_dvd1 (n d : Int) : gc n d ∣ n := Int.ofNat_dvd_left.mpr (Nat.gcd_dvd_left _ _)
theorem gc_dvd2 (n d : Int) : gc n d ∣ d := Int.ofNat_dvd_left.mpr (Nat.gcd_dvd_right _ _)
theorem fd_pos {g n : Int} (hg : 0 < g) (h : g ∣ n) : n.fdiv g = 1 * n / g := by
  rw [Int.one_mul, Int.fdiv_eq_ediv_of_nonneg _ (by omega)]
theorem fd_neg {g n : Int} (hg : 0 < g) (h : g ∣ n) : n.fdiv (-g) = -1 * n / g := by
  obtain ⟨k, rfl⟩ := h
  have e1 : g * k = (-g) * (-k) := by rw [Int.neg_mul_neg]
  have e2 : -1 * (g * k) = g * (-k) := by rw [Int.neg_mul, Int.one_mul, Int.mul_neg]
  rw [e2, Int.mul_ediv_cancel_left _ (by omega), e1, Int.mul_fdiv_cancel_left _ (by omega)]
theorem gc_wd {k : Nat} {n d : Int} (h : d ≠ 0) (hd : Wd k d) : Wd k (gc n d) := by
  refine Nat.lt_of_le_of_lt ?_ hd
  show (((Nat.gcd n.natAbs d.natAbs : Nat) : Int)).natAbs ≤ _
  rw [Int.natAbs_natCast]
  exact Nat.le_of_dvd (by omega) (Nat.gcd_dvd_right _ _)
/-- a quotient is no wider -/
theorem div_wd {k : Nat} {s n g : Int} (hs : s = 1 ∨ s = -1) (hn : Wd k n) : Wd k (s * n / g) := by
  have e : (s * n).natAbs = n.natAbs := by rcases hs with rfl | rfl <;> simp
  refine wd_le ?_ hn
  have := Int.natAbs_ediv_le_natAbs (s * n) g
  omega
theorem FR_wd {k : Nat} {n d : Int} (hn : Wd k n) (hd : Wd k d) : Wd k (FR n d).1 ∧ Wd k (FR n d).2 := by
  unfold FR
  split
  · exact ⟨div_wd (.inr rfl) hn, div_wd (.inr rfl) hd⟩
  · exact ⟨div_wd (.inl rfl) hn, div_wd (.inl rfl) hd⟩
/-- lowest terms -/
def Low (p : Int × Int) : Prop := 0 < p.2 ∧ Nat.gcd p.1.natAbs p.2.natAbs = 1
theorem FR_of {n d : Int} {p : Int × Int} (h : d ≠ 0) (hp : Low p) (e : n * p.2 = d * p.1) : FR n d = p := by
  obtain ⟨a, b⟩ := p
  obtain ⟨hb, hc⟩ := hp
  have hdv : b ∣ d := by
    have h1 : b ∣ d * a := ⟨n, by rw [← e, Int.mul_comm]⟩
    have h2 : b.natAbs ∣ d.natAbs * a.natAbs := by rw [← Int.natAbs_mul]; exact Int.natAbs_dvd_natAbs.mpr h1
    have h3 : b.natAbs ∣ d.natAbs := Nat.Coprime.dvd_of_dvd_mul_right (by unfold Nat.Coprime; rw [Nat.gcd_comm]; exact hc) h2
    exact Int.natAbs_dvd_natAbs.mp h3
  obtain ⟨k, rfl⟩ := hdv
  have hb : 0 < b := hb
  have hk : k ≠ 0 := fun z => h (by rw [z, Int.mul_zero])
  have en : n = k * a := by
    have e2 : n * b = (k * a) * b := by rw [e]; show b * k * a = k * a * b; rw [Int.mul_assoc, Int.mul_comm b]
    exact Int.eq_of_mul_eq_mul_right (by omega) e2
  subst en
  have eg : gc (k * a) (b * k) = k.natAbs := by
    unfold gc
    rw [Int.natAbs_mul, Int.natAbs_mul, Nat.mul_comm b.natAbs, Nat.gcd_mul_left]
    show ((k.natAbs * Nat.gcd a.natAbs b.natAbs : Nat) : Int) = _
    rw [show Nat.gcd a.natAbs b.natAbs = 1 from hc, Nat.mul_one]
  unfold FR
  rw [eg]
  by_cases hs : k < 0
  · have : b * k < 0 := Int.mul_neg_of_pos_of_neg hb hs
    rw [if_pos this]
    have ek : ((k.natAbs : Nat) : Int) = -k := by omega
    rw [ek]
    have e1 : -1 * (k * a) = (-k) * a := by rw [Int.neg_mul, Int.one_mul, Int.neg_mul]
    have e2 : -1 * (b * k) = (-k) * b := by rw [Int.neg_mul, Int.one_mul, Int.neg_mul, Int.mul_comm]
    rw [e1, e2, Int.mul_ediv_cancel_left _ (by omega), Int.mul_ediv_cancel_left _ (by omega)]
  · have : ¬ b * k < 0 := by
      have : 0 ≤ b * k := Int.mul_nonneg (by omega) (by omega)
      omega
    rw [if_neg this]
    have ek : ((k.natAbs : Nat) : Int) = k := by omega
    rw [ek, Int.one_mul, Int.one_mul, Int.mul_ediv_cancel_left _ hk, Int.mul_comm b, Int.mul_ediv_cancel_left _ hk]
theorem FR_low {n d : Int} (h : d ≠ 0) : Low (FR n d) ∧ n * (FR n d).2 = d * (FR n d).1 := by
  have hg := gc_pos (n := n) h
  obtain ⟨a, ha⟩ := gc_dvd1 n d
  obtain ⟨b, hb⟩ := gc_dvd2 n d
  have hc : Nat.gcd a.natAbs b.natAbs = 1 := by
    have e : Nat.gcd n.natAbs d.natAbs = Nat.gcd n.natAbs d.natAbs * Nat.gcd a.natAbs b.natAbs := by
      have h1 : n.natAbs = Nat.gcd n.natAbs d.natAbs * a.natAbs := by
        have := congrArg Int.natAbs ha
        rw [Int.natAbs_mul] at this
        exact this
      have h2 : d.natAbs = Nat.gcd n.natAbs d.natAbs * b.natAbs := by
        have := congrArg Int.natAbs hb
        rw [Int.natAbs_mul] at this
        exact this
      rw [← Nat.gcd_mul_left, ← h1, ← h2]
    have hp : 0 < Nat.gcd n.natAbs d.natAbs := Nat.gcd_pos_of_pos_right _ (by omega)
    exact (Nat.eq_of_mul_eq_mul_left hp (by rw [Nat.mul_one]; exact e)).symm
  generalize hG : gc n d = g at hg ha hb
  unfold FR
  rw [hG]
  by_cases hs : d < 0
  · rw [if_pos hs]
    have e1 : -1 * n / g = -a := by rw [ha, show -1 * (g * a) = g * (-a) by rw [Int.neg_mul, Int.one_mul, Int.mul_neg], Int.mul_ediv_cancel_left _ (by omega)]
    have e2 : -1 * d / g = -b := by rw [hb, show -1 * (g * b) = g * (-b) by rw [Int.neg_mul, Int.one_mul, Int.mul_neg], Int.mul_ediv_cancel_left _ (by omega)]
    rw [e1, e2]
    refine ⟨⟨?_, ?_⟩, ?_⟩
    · show 0 < -b
      have : b < 0 := by
        rcases Int.lt_trichotomy b 0 with z | z | z
        · exact z
        · subst z; rw [Int.mul_zero] at hb; omega
        · have := Int.mul_pos hg z; omega
      omega
    · show Nat.gcd (-a).natAbs (-b).natAbs = 1
      rw [Int.natAbs_neg, Int.natAbs_neg]; exact hc
    · show n * -b = d * -a
      rw [ha, hb, Int.mul_neg, Int.mul_neg, Int.mul_assoc, Int.mul_assoc, Int.mul_comm a b]
  · rw [if_neg hs]
    have e1 : 1 * n / g = a := by rw [Int.one_mul, ha, Int.mul_ediv_cancel_left _ (by omega)]
    have e2 : 1 * d / g = b := by rw [Int.one_mul, hb, Int.mul_ediv_cancel_left _ (by omega)]
    rw [e1, e2]
    refine ⟨⟨?_, hc⟩, ?_⟩
    · show 0 < b
      rcases Int.lt_trichotomy b 0 with z | z | z
      · have := Int.mul_neg_of_pos_of_neg hg z; omega
      · subst z; rw [Int.mul_zero] at hb; omega
      · exact z
    · show n * b = d * a
      rw [ha, hb, Int.mul_assoc, Int.mul_assoc, Int.mul_comm a b]
def sp_cd : DSp := fun ds Q _ => ∃ a b : Int, ds = [.int a, .int b] ∧ Q (.int (gc a b)) [.int a, .int b]
theorem word_common_divisor : ∀ ds Qd Qx, sp_cd ds Qd Qx → W_common_divisor (Ends' ds Qd Qx) (entry ["first", "second"] ds) := by
  rintro ds Qd Qx ⟨a, b, rfl, h⟩
  exact ⟨rfl, rfl, rfl, fin_sh rfl (Nat.le_of_ble_eq_true rfl) h⟩
def sp_fr : DSp := fun ds Q _ => ∃ n d : Int, ds = [.int n, .int d] ∧ d ≠ 0 ∧ Wd 2000 d ∧ Q (pr (FR n d)) [.int n, .int d]
theorem fdg {k : Nat} {i j : Int} (h : j ≠ 0) (hj : Wd k j) (k0 : 0 < k) (k1 : k ≤ 9000) : CDivG i j := ⟨h, Nat.lt_of_lt_of_le (PySem.Flt.log2_lt_of k0 hj) k1⟩
section
variable {wa wb : Pw} {ρ : Env} {i j : Int} {k m : Nat}
theorem pv_fdg (ha : PV wa ρ (.int i)) (hb : PV wb ρ (.int j)) (h : j ≠ 0) (hj : Wd k j) (k0 : 0 < k) (k1 : k ≤ 9000) : PV (pOp rdFdivG wa wb) ρ (.int (i.fdiv j)) := pv_I ha hb (fdg h hj k0 k1)
theorem pv_fd (ha : PV wa ρ (.int i)) (hb : PV wb ρ (.int j)) (h : 0 < j) (hj : Wd k j) (k0 : 0 < k) (k1 : k ≤ 9000) : PV (pOp rdFdiv wa wb) ρ (.int (i / j)) := pv_I ha hb ⟨h, (fdg (by omega : j ≠ 0) hj k0 k1 (i := i)).2⟩
theorem pv_mul (ha : PV wa ρ (.int i)) (hb : PV wb ρ (.int j)) (hi : Wd k i) (hj : Wd m j) (k0 : 0 < k) (m0 : 0 < m) (k1 : k + m ≤ 1000000) : PV (pOp rdMul wa wb) ρ (.int (i * j)) := pv_I ha hb (mulw hi hj k0 m0 k1)
end
theorem xtup {ws : Aw} {ρ : Env} {Q : D → Env → Prop} {Qx : QX} (h : ws ρ (fun as ρ1 => match valsOf as with
  | some ds => owns ds = [] ∧ ds.length ≤ sizeLine ∧ Q (.tup ds) ρ1
  | none => False) Qx) : eTup ws ρ Q Qx := h
theorem word_fraction : ∀ ds Qd Qx, sp_fr ds Qd Qx → W_fraction sp_cd (Ends' ds Qd Qx) (entry ["number", "divisor", "common"] ds) := by
  rintro ds Qd Qx ⟨n, d, rfl, hd, hw, h⟩
  have hg := gc_pos (n := n) hd
  have gw : Wd 2000 (gc n d) := gc_wd hd hw
  refine xseq (xset (xcall (a_pure (pv_var rfl) rfl (a_pure (pv_var rfl) rfl ?_))))
  refine ⟨n, d, rfl, xseq ?_⟩
  refine if_int (pv_var rfl) pv_c (fun hs => ?_) (fun hs => ?_)
  · have hs := of_decide_eq_true hs
    refine s_pure (pv_neg (pv_var rfl)) rfl ?_
    dsimp only
    refine xret (xtup ?_)
    refine a_pure (pv_fdg (pv_var rfl) (pv_var rfl) (k := 2000) (by omega) gw.neg (by decide) (by decide)) rfl (a_pure (pv_fdg (pv_var rfl) (pv_var rfl) (k := 2000) (by omega) gw.neg (by decide) (by decide)) rfl ?_)
    refine ⟨rfl, size_le (by show 2 ≤ 100000; decide), ?_⟩
    refine fin_sh rfl (Nat.le_of_ble_eq_true rfl) ?_
    rw [FR, if_pos hs] at h
    rw [fd_neg hg (gc_dvd1 n d), fd_neg hg (gc_dvd2 n d)]
    exact h
  · have hs := of_decide_eq_false hs
    refine xnext ?_
    dsimp only
    refine xret (xtup ?_)
    refine a_pure (pv_fdg (pv_var rfl) (pv_var rfl) (k := 2000) (by omega) gw (by decide) (by decide)) rfl (a_pure (pv_fdg (pv_var rfl) (pv_var rfl) (k := 2000) (by omega) gw (by decide) (by decide)) rfl ?_)
    refine ⟨rfl, size_le (by show 2 ≤ 100000; decide), ?_⟩
    refine fin_sh rfl (Nat.le_of_ble_eq_true rfl) ?_
    rw [FR, if_neg hs] at h
    rw [fd_pos hg (gc_dvd1 n d), fd_pos hg (gc_dvd2 n d)]
    exact h
def sp_ar (num den : Int → Int → Int → Int → Int) : DSp := fun ds Q _ => ∃ x y a b c e, ds = [x, y] ∧ isSeq x [.int a, .int b] ∧ isSeq y [.int c, .int e] ∧ (Wd 900 a ∧ Wd 900 b ∧ Wd 900 c ∧ Wd 900 e) ∧ den a b c e ≠ 0 ∧ Q (pr (FR (num a b c e) (den a b c e))) [x, y]
section
variable {x y : D} {a b c e : Int} {ρ : Env}
theorem p0 {i : Nat} {d d2 : D} (h : isSeq x [d, d2]) (hi : ρ[i]? = some (some x)) : PV (pIx (pVar i) (pC (.int 0))) ρ d := pv_ix (pv_var hi) pv_c (seq_seq h) rfl
theorem p1 {i : Nat} {d d2 : D} (h : isSeq x [d, d2]) (hi : ρ[i]? = some (some x)) : PV (pIx (pVar i) (pC (.int 1))) ρ d2 := pv_ix (pv_var hi) pv_c (seq_seq h) rfl
end
theorem t_eqI {wa wb : Pw} {ρ : Env} {i j : Int} {QT : Bool → Env → Prop} {Qx : QX} (ha : PV wa ρ (.int i)) (hb : PV wb ρ (.int j)) (q : QT (decide (V.int i = V.int j)) ρ) : tPure rdEq wa wb ρ QT Qx := ha _ (hb _ ⟨rfl, q⟩)
theorem t_neI {wa wb : Pw} {ρ : Env} {i j : Int} {QT : Bool → Env → Prop} {Qx : QX} (ha : PV wa ρ (.int i)) (hb : PV wb ρ (.int j)) (q : QT (!decide (V.int i = V.int j)) ρ) : tPure rdNe wa wb ρ QT Qx := ha _ (hb _ ⟨rfl, q⟩)
theorem xpar {i j : Nat} {ws : Aw} {D0 : DEnds} {ρ : Env} (h : ws ρ (fun as ρ1 => match valsOf as with
  | some [x, y] => owns [x, y] = [] ∧ D0.nx ((ρ1.set i (some x)).set j (some y))
  | _ => False) D0.xx) : sPar i j ws D0 ρ := h
theorem xbrk {D0 : DEnds} {ρ : Env} (h : D0.bk ρ) : sBrk D0 ρ := h
theorem fin2 {d e : D} {o1 o2 : Option D} {ρ : Env} {R : List D → Prop} (h1 : own d = []) (h2 : own e = []) (r : R [d, e]) : fin [d, e] (o1 :: o2 :: ρ) R := .inl ⟨h1, .inl ⟨h2, r⟩⟩
def addN (a b c e : Int) : Int := a * e + c * b
def subN (a b c e : Int) : Int := a * e - c * b
def mulN (a b c e : Int) : Int := a * c
def denN (a b c e : Int) : Int := b * e
def divN (a b c e : Int) : Int := a * e
def divD (a b c e : Int) : Int := b * c
theorem word_added : ∀ ds Qd Qx, sp_ar addN denN ds Qd Qx → W_added sp_fr (Ends' ds Qd Qx) (entry ["first", "second"] ds) := by
  rintro ds Qd Qx ⟨x, y, a, b, c, e, rfl, hx, hy, ⟨wa, wb, wc, we⟩, hd, h⟩
  have ox := seq_own hx rfl
  have oy := seq_own hy rfl
  refine xret (xcall ?_)
  refine a_pure (pv_I0 (pv_mul (k := 900) (m := 900) (p0 hx rfl) (p1 hy rfl) wa we (by decide) (by decide) (by decide)) (pv_mul (k := 900) (m := 900) (p0 hy rfl) (p1 hx rfl) wc wb (by decide) (by decide) (by decide))) rfl ?_
  refine a_pure (pv_mul (k := 900) (m := 900) (p1 hx rfl) (p1 hy rfl) wb we (by decide) (by decide) (by decide)) rfl ?_
  refine ⟨_, _, rfl, hd, (wb.mul we).mono (by decide), ?_⟩
  exact fin_sh (by show own x ++ (own y ++ []) = []; rw [ox, oy]; rfl) (Nat.le_of_ble_eq_true rfl) h
theorem word_subtracted : ∀ ds Qd Qx, sp_ar subN denN ds Qd Qx → W_subtracted sp_fr (Ends' ds Qd Qx) (entry ["first", "second"] ds) := by
  rintro ds Qd Qx ⟨x, y, a, b, c, e, rfl, hx, hy, ⟨wa, wb, wc, we⟩, hd, h⟩
  have ox := seq_own hx rfl
  have oy := seq_own hy rfl
  refine xret (xcall ?_)
  refine a_pure (pv_I0 (pv_mul (k := 900) (m := 900) (p0 hx rfl) (p1 hy rfl) wa we (by decide) (by decide) (by decide)) (pv_mul (k := 900) (m := 900) (p0 hy rfl) (p1 hx rfl) wc wb (by decide) (by decide) (by decide))) rfl ?_
  refine a_pure (pv_mul (k := 900) (m := 900) (p1 hx rfl) (p1 hy rfl) wb we (by decide) (by decide) (by decide)) rfl ?_
  refine ⟨_, _, rfl, hd, (wb.mul we).mono (by decide), ?_⟩
  exact fin_sh (by show own x ++ (own y ++ []) = []; rw [ox, oy]; rfl) (Nat.le_of_ble_eq_true rfl) h
theorem word_multiplied : ∀ ds Qd Qx, sp_ar mulN denN ds Qd Qx → W_multiplied sp_fr (Ends' ds Qd Qx) (entry ["first", "second"] ds) := by
  rintro ds Qd Qx ⟨x, y, a, b, c, e, rfl, hx, hy, ⟨wa, wb, wc, we⟩, hd, h⟩
  have ox := seq_own hx rfl
  have oy := seq_own hy rfl
  refine xret (xcall ?_)
  refine a_pure (pv_mul (k := 900) (m := 900) (p0 hx rfl) (p0 hy rfl) wa wc (by decide) (by decide) (by decide)) rfl ?_
  refine a_pure (pv_mul (k := 900) (m := 900) (p1 hx rfl) (p1 hy rfl) wb we (by decide) (by decide) (by decide)) rfl ?_
  refine ⟨_, _, rfl, hd, (wb.mul we).mono (by decide), ?_⟩
  exact fin_sh (by show own x ++ (own y ++ []) = []; rw [ox, oy]; rfl) (Nat.le_of_ble_eq_true rfl) h
theorem word_divided : ∀ ds Qd Qx, sp_ar divN divD ds Qd Qx → W_divided sp_fr (Ends' ds Qd Qx) (entry ["first", "second"] ds) := by
  rintro ds Qd Qx ⟨x, y, a, b, c, e, rfl, hx, hy, ⟨wa, wb, wc, we⟩, hd, h⟩
  have ox := seq_own hx rfl
  have oy := seq_own hy rfl
  refine xret (xcall ?_)
  refine a_pure (pv_mul (k := 900) (m := 900) (p0 hx rfl) (p1 hy rfl) wa we (by decide) (by decide) (by decide)) rfl ?_
  refine a_pure (pv_mul (k := 900) (m := 900) (p1 hx rfl) (p0 hy rfl) wb wc (by decide) (by decide) (by decide)) rfl ?_
  refine ⟨_, _, rfl, hd, (wb.mul wc).mono (by decide), ?_⟩
  exact fin_sh (by show own x ++ (own y ++ []) = []; rw [ox, oy]; rfl) (Nat.le_of_ble_eq_true rfl) h
def sp_less : DSp := fun ds Q _ => ∃ x y a b c e, ds = [x, y] ∧ isSeq x [.int a, .int b] ∧ isSeq y [.int c, .int e] ∧ (Wd 900 a ∧ Wd 900 b ∧ Wd 900 c ∧ Wd 900 e) ∧ Q (.bl (decide (a * e < c * b))) [x, y]
theorem word_is_less : ∀ ds Qd Qx, sp_less ds Qd Qx → W_is_less (Ends' ds Qd Qx) (entry ["first", "second"] ds) := by
  rintro ds Qd Qx ⟨x, y, a, b, c, e, rfl, hx, hy, ⟨wa, wb, wc, we⟩, h⟩
  have ox := seq_own hx rfl
  have oy := seq_own hy rfl
  refine r_pure (pv_I0 (pv_mul (k := 900) (m := 900) (p0 hx rfl) (p1 hy rfl) wa we (by decide) (by decide) (by decide)) (pv_mul (k := 900) (m := 900) (p0 hy rfl) (p1 hx rfl) wc wb (by decide) (by decide) (by decide))) rfl ?_
  exact fin_sh (by show own x ++ (own y ++ []) = []; rw [ox, oy]; rfl) (Nat.le_of_ble_eq_true rfl) h
theorem xix {wa wb : Ew} {ρ : Env} {Q : D → Env → Prop} {Qx : QX} (h : wa ρ (fun x ρ1 => own x = [] ∧ wb ρ1 (fun y ρ2 => ixD x y fun d => own d = [] ∧ Q d ρ2) Qx) Qx) : eIx wa wb ρ Q Qx := h
theorem ix_tup {l : List D} {i : Int} {d : D} {Q : D → Prop} (e : atI l i = some d) (q : Q d) : ixD (.tup l) (.int i) Q := by
  show (match atI l i with
    | some d => Q d
    | none => False)
  rw [e]; exact q
theorem xtop {rd : RD} {wa wb : Ew} {ρ : Env} {QB : Bool → Env → Prop} {Qx : QX} (h : wa ρ (fun x ρ1 => own x = [] ∧ wb ρ1 (fun y ρ2 => rd x y fun z => match z with
  | .bl k => QB k ρ2
  | _ => False) Qx) Qx) : tOpD rd wa wb ρ QB Qx := h
theorem fin_p {a : Addr} {d d' : D} {ρ : Env} {R : List D → Prop} (h : Pool a d) (h' : Pool a d') (r : R [d']) : fin [d] (some d' :: ρ) R := .inr ⟨a, d', pool_addr h, rfl, pool_addr h', r⟩
/-! ### a call that the pool is lent to -/
def PoolQ (i : Nat) (a : Addr) (vs : List D) (ρ : Env) (Q : Env → Prop) (ds' : List D) : Prop := giveA (.lend (i, []) a :: vs.map .val) ds' (ρ.set i (some (lent a))) Q
theorem resA_vals : ∀ (vs : List D) (ρ : Env) (R : List D → Env → Prop), resA (vs.map Arg.val) ρ R = R vs ρ
  | [], ρ, R => rfl
  | d :: vs, ρ, R => by
    show resA (vs.map Arg.val) ρ (fun ds ρ' => R (d :: ds) ρ') = _
    rw [resA_vals vs]
theorem giveA_vals : ∀ (vs ws : List D) (ρ : Env) (R : Env → Prop), ws.length = vs.length → R ρ → giveA (vs.map Arg.val) ws ρ R
  | [], [], ρ, R, _, r => r
  | [], _ :: _, _, _, h, _ => nomatch h
  | _ :: _, [], _, _, h, _ => nomatch h
  | d :: vs, e :: ws, ρ, R, h, r => giveA_vals vs ws ρ R (by simpa using h) r
theorem poolq {i : Nat} {a : Addr} {vs ws : List D} {ρ : Env} {Q : Env → Prop} {d' : D} (hil : i < ρ.length) (hl : ws.length = vs.length) (q : Q (ρ.set i (some d'))) : PoolQ i a vs ρ Q (d' :: ws) := by
  have e3 : ∀ x e, setP (ρ.set i (some x)) (i, []) e = ρ.set i (some e) := fun x e => by
    unfold setP
    simp only [getq_set_self hil, List.set_set]; rfl
  have e4 : ∀ x, getP (ρ.set i (some x)) (i, []) = some x := fun x => by
    unfold getP
    simp only [getq_set_self hil]; rfl
  show getP (ρ.set i (some (lent a))) (i, []) = some (lent a) ∧ giveA (vs.map Arg.val) ws (setP (ρ.set i (some (lent a))) (i, []) d') Q
  rw [e3, e4]
  exact ⟨rfl, giveA_vals _ _ _ _ hl q⟩
theorem c_pool {dsp : DSp} {ws : Aw} {vs : List D} {ρ : Env} {Q : D → Env → Prop} {Qx : QX} {a : Addr} {d : D} {i : Nat} (hi : ρ[i]? = some (some d)) (hp : Pool a d) (hw : ∀ QA : List Arg → Env → Prop, QA (vs.map Arg.val) ρ → ws ρ QA Qx)
    (h : dsp (d :: vs) (fun r ds' => PoolQ i a vs ρ (Q r) ds') (fun x ds' => PoolQ i a vs ρ (Qx x) ds')) : wCall dsp (aLend (lVar i) ws) ρ Q Qx := by
  have hil : i < ρ.length := lt_of_get hi
  have e1 : ∀ e, setP ρ (i, []) e = ρ.set i (some e) := fun e => by unfold setP; simp only [hi]; rfl
  have e2 : getP ρ (i, []) = some d := by unfold getP; simp only [hi]; rfl
  refine xcall ?_
  show (match ρ[i]? with
    | some (some d) => _
    | _ => False)
  rw [hi]
  refine ⟨a, pool_addr hp, hw _ ?_⟩
  show (match getP ρ (i, []) with
    | some d => _
    | none => False)
  rw [e2]
  refine ⟨pool_addr hp, ?_⟩
  rw [resA_vals, e1]
  exact h
theorem x_frzD {ρ : Env} {i : Nat} {e : D} {Q : D → Env → Prop} {Qx : QX} (h : ρ[i]? = some (some e)) (n : own (fr1 e) = []) (q : Q (fr1 e) (ρ.set i (some (fr1 e)))) : eFrz i ρ Q Qx := by
  unfold eFrz
  rw [h]
  exact ⟨n, q⟩
theorem dat_pr (p : Int × Int) : Dat 1 (pr p) := ⟨by show 2 < 100000; decide, fun d hd => by
  rcases List.mem_cons.mp hd with rfl | hd
  · exact True.intro
  · rcases List.mem_cons.mp hd with rfl | hd
    · exact True.intro
    · cases hd⟩
theorem fr1_seq {x : D} {l : List D} (h : isSeq x l) : fr1 x = x := by rcases h with rfl | rfl <;> rfl
theorem xorP {wt wu : Tw} {ρ : Env} {QB : Bool → Env → Prop} {Qx : QX} {b1 b2 : Bool} (h1 : ∀ QT : Bool → Env → Prop, QT b1 ρ → wt ρ QT Qx) (h2 : ∀ QT : Bool → Env → Prop, QT b2 ρ → wu ρ QT Qx) (q : QB (b1 || b2) ρ) : tOrD wt wu ρ QB Qx :=
  xor (h1 _ (by
    cases b1 with
    | true => exact q
    | false => exact h2 _ q))
theorem ne_bl {x : Int} : (!decide (V.int x = V.int 0)) = decide (x ≠ 0) := by
  by_cases h : x = 0
  · subst h; rfl
  · have : ¬ V.int x = V.int 0 := fun z => h (by injection z)
    simp [h, this]
end DL
set_option Elab.async false
set_option linter.all false
set_option maxHeartbeats 2000000
namespace DL
open PySem PySem.Spec PyProof.Rows L2
/-! ### _law_same in form B -/
def W_law_sameB (sp_law_same : DSp) : Sw :=
    (sSeq (sIf (tPure rdIsN (pVar 1) (pC .non)) (sRet (ePure (pOp rdIsN (pVar 0) (pC .non)))) sNext)
    (sSeq (sIf (tOrD (tOpD rdNe (eCallB rdIsi (aVal (ePure (pVar 1)) (aVal (ePure (pC (.cv (.ty "tuple")))) aNil))) (eCallB rdIsi (aVal (ePure (pVar 0)) (aVal (ePure (pC (.cv (.ty "tuple")))) aNil)))) (tOpD rdNe (eCallB rdIsi (aVal (ePure (pVar 1)) (aVal (ePure (pC (.cv (.ty "list")))) aNil))) (eCallB rdIsi (aVal (ePure (pVar 0)) (aVal (ePure (pC (.cv (.ty "list")))) aNil))))) (sRet (ePure (pC (.bl false)))) sNext)
    (sSeq (sIf (tOrD (tTru (eCallB rdIsi (aVal (ePure (pVar 1)) (aVal (ePure (pC (.cv (.ty "tuple")))) aNil)))) (tTru (eCallB rdIsi (aVal (ePure (pVar 1)) (aVal (ePure (pC (.cv (.ty "list")))) aNil))))) (sRet (eAnd (ePure (pOp rdEq (pLen (pVar 0)) (pLen (pVar 1)))) (eCallB rdAll (aVal (eKeep (eLc (iRg1 (aVal (ePure (pLen (pVar 1))) aNil)) (gNm 2) tAll (wCall sp_law_same (aVal (ePure (pIx (pVar 0) (pVar 2))) (aVal (ePure (pIx (pVar 1) (pVar 2))) aNil))) [2])) aNil)))) sNext)
    (sSeq (sIf (tOrD (tOpD rdNe (eCallB rdIsi (aVal (ePure (pVar 1)) (aVal (ePure (pC (.cv (.ty "bool")))) aNil))) (eCallB rdIsi (aVal (ePure (pVar 0)) (aVal (ePure (pC (.cv (.ty "bool")))) aNil)))) (tOpD rdNe (eCallB rdIsi (aVal (ePure (pVar 1)) (aVal (ePure (pC (.cv (.ty "str")))) aNil))) (eCallB rdIsi (aVal (ePure (pVar 0)) (aVal (ePure (pC (.cv (.ty "str")))) aNil))))) (sRet (ePure (pC (.bl false)))) sNext)
    (sRet (eAnd (eOp rdEq (eCallB rdIsi (aVal (ePure (pVar 1)) (aVal (ePure (pC (.cv (.ty "int")))) aNil))) (eCallB rdIsi (aVal (ePure (pVar 0)) (aVal (ePure (pC (.cv (.ty "int")))) aNil)))) (ePure (pOp rdEq (pVar 0) (pVar 1)))))))))
theorem t_isi2 {w0 w1 : Pw} {ρ : Env} {x : D} {QB : Bool → Env → Prop} {Qx : QX} {t T : String} {b : Bool} (h0 : PV w0 ρ x) (h1 : PV w1 ρ x) (n : own x = []) (ht : tyD x = some t) (hk : kitB t T = some b) (q : QB false ρ) :
    tOpD rdNe (eCallB rdIsi (aVal (ePure w1) (aVal (ePure (pC (.cv (.ty T)))) aNil))) (eCallB rdIsi (aVal (ePure w0) (aVal (ePure (pC (.cv (.ty T)))) aNil))) ρ QB Qx := by
  refine e_isi h1 n ht hk ⟨rfl, e_isi h0 n ht hk ⟨rfl, ?_⟩⟩
  show QB (!decide (V.bl b = V.bl b)) ρ
  rw [show (!decide (V.bl b = V.bl b)) = false by simp]; exact q
theorem e_isi2 {w0 w1 : Pw} {ρ : Env} {x : D} {Q : D → Env → Prop} {Qx : QX} {t T : String} {b : Bool} (h0 : PV w0 ρ x) (h1 : PV w1 ρ x) (n : own x = []) (ht : tyD x = some t) (hk : kitB t T = some b) (q : Q (.bl true) ρ) :
    eOp rdEq (eCallB rdIsi (aVal (ePure w1) (aVal (ePure (pC (.cv (.ty T)))) aNil))) (eCallB rdIsi (aVal (ePure w0) (aVal (ePure (pC (.cv (.ty T)))) aNil))) ρ Q Qx := by
  refine xop (e_isi h1 n ht hk ⟨rfl, e_isi h0 n ht hk ⟨rfl, ?_⟩⟩)
  rw [show decide (V.bl b = V.bl b) = true by simp]; exact q
theorem pv_eq {wa wb : Pw} {ρ : Env} {x : D} {u : V} (ha : PV wa ρ x) (hb : PV wb ρ x) (hs : sc x = some u) (hc : scal u u = true) : PV (pOp rdEq wa wb) ρ (.bl true) := fun R r => ha _ (hb _ (by
  show rdEq x x _
  unfold rdEq
  rw [hs]
  refine ⟨hc, ?_⟩
  rw [show decide (u = u) = true by simp]
  exact r))
/-- a scalar's way through the text -/
theorem sameB_scalar {n : Nat} {x : D} {t : String} {D0 : DEnds} (hN : isN x = some false) (ox : own x = []) (ht : tyD x = some t) {b1 b2 b3 : Bool} (h1 : kitB t "tuple" = some false) (h2 : kitB t "list" = some false) (h3 : kitB t "bool" = some b1) (h4 : kitB t "str" = some b2) (h5 : kitB t "int" = some b3) {u : V} (hs : sc x = some u) (hc : scal u u = true)
    (q : D0.rt (.bl true) [some x, some x, none]) : W_law_sameB (sp_same n) D0 [some x, some x, none] := by
  refine xseq (xif (t_isN (b := false) (pv_var rfl) hN (iteF (xnext ?_))))
  dsimp only
  refine xseq (xif (xor (t_isi2 (pv_var rfl) (pv_var rfl) ox ht h1 (iteF (t_isi2 (pv_var rfl) (pv_var rfl) ox ht h2 (iteF (xnext ?_)))))))
  dsimp only
  refine xseq (xif (xor (t_isi (b := false) (pv_var rfl) ox ht h1 (iteF (t_isi (b := false) (pv_var rfl) ox ht h2 (iteF (xnext ?_)))))))
  dsimp only
  refine xseq (xif (xor (t_isi2 (pv_var rfl) (pv_var rfl) ox ht h3 (iteF (t_isi2 (pv_var rfl) (pv_var rfl) ox ht h4 (iteF (xnext ?_)))))))
  dsimp only
  refine xret (xeand (e_isi2 (pv_var rfl) (pv_var rfl) ox ht h5 (iteT ?_)))
  exact e_pure (pv_eq (pv_var rfl) (pv_var rfl) hs hc) rfl q
theorem word_sameB {n : Nat} : ∀ ds Qd Qx, sp_same (n + 1) ds Qd Qx → W_law_sameB (sp_same n) (Ends' ds Qd Qx) (entry ["actual", "due", "k"] ds) := by
  rintro ds Qd Qx ⟨x, rfl, dx, h⟩
  have ox := dx.own
  have fin0 : fin [x, x] ([some x, some x, none]) (Qd (.bl true)) := fin_sh (by show own x ++ (own x ++ []) = []; rw [ox]; rfl) (Nat.le_of_ble_eq_true rfl) h
  cases x with
  | tup l =>
    cases n with
    | zero => exact dx.elim
    | succ n =>
    refine xseq (xif (t_isN (b := false) (pv_var rfl) rfl (iteF (xnext ?_))))
    dsimp only
    refine xseq (xif (xor (t_isi2 (t := "tuple") (b := true) (pv_var rfl) (pv_var rfl) ox rfl (by decide +kernel) (iteF (t_isi2 (t := "tuple") (b := false) (pv_var rfl) (pv_var rfl) ox rfl (by decide +kernel) (iteF (xnext ?_)))))))
    dsimp only
    refine xseq (xif (xor (t_isi (b := true) (t := "tuple") (pv_var rfl) ox rfl (by decide +kernel) (iteT (iteT ?_)))))
    refine xret (xeand ?_)
    exact e_pure (pv_eq (x := .int l.length) (pv_len (x := .tup l) (l := l) (pv_var rfl) rfl) (pv_len (x := .tup l) (l := l) (pv_var rfl) rfl) rfl rfl) rfl (iteT (e_alls (x := .tup l) rfl dx.1 dx.2 ox fin0))
  | lst m l =>
    cases m with
    | none =>
      cases n with
      | zero => exact dx.elim
      | succ n =>
      refine xseq (xif (t_isN (b := false) (pv_var rfl) rfl (iteF (xnext ?_))))
      dsimp only
      refine xseq (xif (xor (t_isi2 (t := "list") (b := false) (pv_var rfl) (pv_var rfl) ox rfl (by decide +kernel) (iteF (t_isi2 (t := "list") (b := true) (pv_var rfl) (pv_var rfl) ox rfl (by decide +kernel) (iteF (xnext ?_)))))))
      dsimp only
      refine xseq (xif (xor (t_isi (b := false) (t := "list") (pv_var rfl) ox rfl (by decide +kernel) (iteF (t_isi (b := true) (t := "list") (pv_var rfl) ox rfl (by decide +kernel) (iteT ?_))))))
      refine xret (xeand ?_)
      exact e_pure (pv_eq (x := .int l.length) (pv_len (x := .lst none l) (l := l) (pv_var rfl) rfl) (pv_len (x := .lst none l) (l := l) (pv_var rfl) rfl) rfl rfl) rfl (iteT (e_alls (x := .lst none l) rfl dx.1 dx.2 ox fin0))
    | some a => unfold Dat at dx; exact dx.elim
  | non =>
    refine xseq (xif (t_isN (b := true) (pv_var rfl) rfl (iteT ?_)))
    exact ⟨rfl, fin0⟩
  | bl c => exact sameB_scalar (t := "bool") rfl rfl rfl (b1 := true) (b2 := false) (b3 := true) (by decide +kernel) (by decide +kernel) (by decide +kernel) (by decide +kernel) (by decide +kernel) rfl rfl fin0
  | str c => exact sameB_scalar (t := "str") rfl rfl rfl (b1 := false) (b2 := true) (b3 := false) (by decide +kernel) (by decide +kernel) (by decide +kernel) (by decide +kernel) (by decide +kernel) rfl rfl fin0
  | int c => exact sameB_scalar (t := "int") rfl rfl rfl (b1 := false) (b2 := false) (b3 := true) (by decide +kernel) (by decide +kernel) (by decide +kernel) (by decide +kernel) (by decide +kernel) rfl rfl fin0
  | _ => unfold Dat at dx; exact dx.elim
end DL
set_option Elab.async false
set_option linter.all false
set_option maxHeartbeats 4000000
namespace DL
open PySem PySem.Spec PyProof.Rows L2
/-! ### sequences of batches: normalize, units -/
def W_normalize  : Sw :=
    (sSeq (sSet 1 (eLst aNil))
    (sSeq (sFor (iSq (ePure (pVar 0))) (gTp (gsCons (gNm 2) (gsCons (gNm 3) gsNil)) 2) (sIf (tAndD (tTruP (pVar 1)) (tPure rdEq (pIx (pIx (pVar 1) (pNeg (pC (.int 1)))) (pC (.int 0))) (pVar 2))) (sSetIx (eTup (aVal (ePure (pVar 2)) (aVal (ePure (pOp rdAdd (pIx (pIx (pVar 1) (pNeg (pC (.int 1)))) (pC (.int 1))) (pVar 3))) aNil))) (lVar 1) (pNeg (pC (.int 1)))) (sDrop (eApp (lVar 1) (eTup (aVal (ePure (pVar 2)) (aVal (ePure (pVar 3)) aNil)))))))
    (sRet (eTupP (pVar 1)))))
def W_units  : Sw :=
    (sRet (eCallB rdSum (aVal (eKeep (eLc (iSq (ePure (pVar 0))) (gNm 1) tAll (ePure (pIx (pVar 1) (pC (.int 1)))) [1])) aNil)))
section
variable {we wa wb : Ew} {ws : Aw} {ρ : Env} {Q : D → Env → Prop} {Qx : QX} {rd : List D → (D → Prop) → Prop}
theorem xapp {i : Nat} {a : Addr} {l : List D} (e : ρ[i]? = some (some (.lst (some a) l))) (h : we ρ (fun y ρ1 => match getP ρ1 (i, []) with
    | some (.lst (some b) l) => b = a ∧ l.length < sizeLine ∧ Q .non (setP ρ1 (i, []) (.lst (some b) (l ++ [y])))
    | _ => False) Qx) : eApp (lVar i) we ρ Q Qx := by
  show (match ρ[i]? with
    | some (some d) => _
    | _ => False)
  rw [e]; exact h
theorem xcallB (h : ws ρ (fun as ρ1 => match valsOf as with
  | some ds => owns ds = [] ∧ rd ds fun z => Q z ρ1
  | none => False) Qx) : eCallB rd ws ρ Q Qx := h
theorem xcat (h : wa ρ (fun x ρ1 => match x with
  | .lst _ l => owns l = [] ∧ wb ρ1 (fun y ρ2 => match y with
    | .lst _ r => owns r = [] ∧ l.length + r.length ≤ sizeLine ∧ ∀ p, Q (.lst (some p) (l ++ r)) ρ2
    | _ => False) Qx
  | _ => False) Qx) : eCat wa wb ρ Q Qx := h
theorem xlst (h : ws ρ (fun as ρ1 => match valsOf as with
  | some ds => ds.length ≤ sizeLine ∧ ∀ p, Q (.lst (some p) ds) ρ1
  | none => False) Qx) : eLst ws ρ Q Qx := h
end
def nstep (rows : List (Int × Int)) (x : Int × Int) : List (Int × Int) := match rows.getLast? with
  | some y => if y.1 = x.1 then rows.dropLast ++ [(x.1, y.2 + x.2)] else rows ++ [x]
  | none => rows ++ [x]
def norm (l : List (Int × Int)) : List (Int × Int) := l.foldl nstep []
theorem owns_pr (l : List (Int × Int)) : owns (l.map pr) = [] := owns_map_nil (fun _ => rfl) l
theorem nstep_len (rows : List (Int × Int)) (x : Int × Int) : (nstep rows x).length ≤ rows.length + 1 := by
  unfold nstep
  split
  · split
    · rw [List.length_append, List.length_dropLast]; simp
    · simp
  · simp
theorem fold_len : ∀ (l rows : List (Int × Int)), (l.foldl nstep rows).length ≤ rows.length + l.length
  | [], rows => by simp
  | x :: l, rows => by
    have h := nstep_len rows x
    have h2 := fold_len l (nstep rows x)
    rw [List.foldl_cons, List.length_cons]; omega
theorem atI_last2 {l : List D} {x : D} : atI (l ++ [x]) (-1) = some x := by
  have e : ixN (l ++ [x]).length (-1) = some l.length := by
    unfold ixN
    rw [if_neg (by omega)]
    simp
    omega
  unfold atI
  rw [e]
  show (l ++ [x])[l.length]? = some x
  rw [List.getElem?_append_right (Nat.le_refl _), Nat.sub_self]; rfl
theorem set_last {D0 : DEnds} {we : Ew} {wl : Lw} {wp : Pw} {ρ : Env} {p : Path} {a : Addr} {l : List D} {y z : D} (h1 : ∀ R : D → Env → Prop, R y ρ → we ρ R D0.xx) (h2 : ∀ R : Path → D → Prop, R p (.lst (some a) (l ++ [z])) → wl ρ R) (h3 : PV wp ρ (.int (-1))) (q : D0.nx (setP ρ p (.lst (some a) (l ++ [y])))) : sSetIx we wl wp D0 ρ := by
  refine h1 _ (h2 _ (h3 _ ?_))
  have e : ixN (l ++ [z]).length (-1) = some l.length := by
    unfold ixN
    rw [if_neg (by omega)]
    simp
    omega
  show (match ixN (l ++ [z]).length (-1) with
    | some k => D0.nx (setP ρ p (.lst (some a) ((l ++ [z]).set k y)))
    | none => False)
  rw [e]
  show D0.nx (setP ρ p (.lst (some a) ((l ++ [z]).set l.length y)))
  rw [show (l ++ [z]).set l.length y = l ++ [y] by simp]
  exact q
def sp_norm : DSp := fun ds Q _ => ∃ d l, ds = [d] ∧ isSeq d (l.map pr) ∧ l.length ≤ 10000 ∧ Q (.tup ((norm l).map pr)) [d]
theorem word_normalize : ∀ ds Qd Qx, sp_norm ds Qd Qx → W_normalize (Ends' ds Qd Qx) (entry ["sequence", "rows", "product", "amount"] ds) := by
  rintro ds Qd Qx ⟨d, l, rfl, hd, hl, h⟩
  have od := seq_own hd (owns_pr l)
  refine xseq ⟨Nat.zero_le _, fun a => xseq ?_⟩
  refine for_seq (fun R r => e_pure (pv_var rfl) od r) (hd.elim .inl fun h => .inr (.inl h)) (fun i ρ => ∃ x2 x3, ρ = [some d, some (.lst (some a) ((norm (l.take i)).map pr)), x2, x3]) ⟨_, _, rfl⟩ ?_ ?_
  · rintro i e ρ2 he ⟨x2, x3, rfl⟩
    obtain ⟨x, hx, rfl⟩ := getq_map he
    have hi := lt_of_get hx
    have hst : norm (l.take (i + 1)) = nstep (norm (l.take i)) x := by
      unfold norm
      rw [List.take_add_one, hx, List.foldl_append]; rfl
    have hln : (norm (l.take i)).length ≤ i := by
      have := fold_len (l.take i) []
      rw [List.length_take] at this
      unfold norm
      simp at this ⊢; omega
    generalize norm (l.take i) = rows at hst hln
    refine ⟨rfl, ?_⟩
    show sIf _ _ _ _ [some d, some (.lst (some a) (rows.map pr)), some (.int x.1), some (.int x.2)]
    have oR := owns_pr rows
    have app : ∀ D0 : DEnds, (∃ x2 x3, [some d, some (.lst (some a) ((rows ++ [x]).map pr)), some (.int x.1), some (.int x.2)] = [some d, some (.lst (some a) ((rows ++ [x]).map pr)), x2, x3]) → D0.nx [some d, some (.lst (some a) ((rows ++ [x]).map pr)), some (.int x.1), some (.int x.2)] → sDrop (eApp (lVar 1) (eTup (aVal (ePure (pVar 2)) (aVal (ePure (pVar 3)) aNil)))) D0 [some d, some (.lst (some a) (rows.map pr)), some (.int x.1), some (.int x.2)] := by
      intro D0 _ q
      refine xdrop (xapp rfl (xtup (a_pure (d := .int x.1) (pv_var rfl) rfl (a_pure (d := .int x.2) (pv_var rfl) rfl ⟨rfl, size_le (by show 2 ≤ 100000; decide), rfl, size_lt (by rw [List.length_map]; omega), ?_⟩))))
      rw [List.map_append] at q
      exact q
    rcases List.eq_nil_or_concat rows with rfl | ⟨init, y, rfl⟩
    · refine xif (xand (xtruP (k := false) (pv_var rfl) rfl (iteF (iteF (app _ ⟨_, _, rfl⟩ ⟨some (.int x.1), some (.int x.2), by rw [hst]; rfl⟩)))))
    · rw [List.concat_eq_append] at *
      have ht : truD (.lst (some a) ((init ++ [y]).map pr)) = some true := by
        rw [List.map_append]
        show some (!((init.map pr ++ [pr y]).isEmpty)) = some true
        simp
      have hgl : (init ++ [y]).getLast? = some y := by simp
      refine xif (xand (xtruP (k := true) (pv_var rfl) ht (iteT ?_)))
      refine t_eqI (pv_ix (x := pr y) (pv_ix (pv_var rfl) (pv_neg pv_c) rfl (by rw [List.map_append]; exact atI_last2)) pv_c rfl rfl) (pv_var rfl) ?_
      by_cases hq : y.1 = x.1
      · rw [show decide (V.int y.1 = V.int x.1) = true by rw [hq]; simp]
        refine iteT ?_
        have hst2 : norm (l.take (i + 1)) = init ++ [(x.1, y.2 + x.2)] := by
          rw [hst]; unfold nstep; rw [hgl]
          show (if y.1 = x.1 then (init ++ [y]).dropLast ++ [(x.1, y.2 + x.2)] else _) = _
          rw [if_pos hq, List.dropLast_concat]
        refine set_last (p := (1, [])) (a := a) (l := init.map pr) (z := pr y) (y := pr (x.1, y.2 + x.2)) (fun R r => xtup (a_pure (d := .int x.1) (pv_var rfl) rfl (a_pure (pv_I0 (pv_ix (x := pr y) (pv_ix (pv_var rfl) (pv_neg pv_c) rfl (by rw [List.map_append]; exact atI_last2)) pv_c rfl rfl) (pv_var rfl)) rfl ⟨rfl, size_le (by show 2 ≤ 100000; decide), r⟩))) (fun R r => by
          show R (1, []) (.lst (some a) ((init ++ [y]).map pr))
          rw [List.map_append]; exact r) (pv_neg pv_c) ?_
        refine ⟨some (.int x.1), some (.int x.2), ?_⟩
        rw [hst2, show (init ++ [(x.1, y.2 + x.2)]).map pr = init.map pr ++ [pr (x.1, y.2 + x.2)] by rw [List.map_append]; rfl]
        rfl
      · rw [show decide (V.int y.1 = V.int x.1) = false from decide_eq_false fun z => hq (by injection z)]
        refine iteF (app _ ⟨_, _, rfl⟩ ⟨some (.int x.1), some (.int x.2), ?_⟩)
        have hst2 : norm (l.take (i + 1)) = init ++ [y] ++ [x] := by
          rw [hst]; unfold nstep; rw [hgl]
          show (if y.1 = x.1 then _ else init ++ [y] ++ [x]) = _
          rw [if_neg hq]
        rw [hst2]
  · rintro ρ2 ⟨x2, x3, rfl⟩
    rw [List.length_map, List.take_length]
    exact ⟨owns_pr _, .inl ⟨od, h⟩⟩
end DL
set_option Elab.async false
set_option linter.all false
set_option maxRecDepth 100000
set_option maxHeartbeats 2000000
namespace DL
open PySem PySem.Spec PyProof.Rows L2
/-! ### pop and insert of an owned list whose items nobody owns -/
section
variable {X : Cx} {W : WX} {o e i : Expr} {pos apos cpos : Pos} {wl : Lw} {wp wq : Pw}
def ePop (wl : Lw) : Ew := fun ρ Q _ => wl ρ fun p d => match d with
  | .lst (some a) l => owns l = [] ∧ ∃ y, l.getLast? = some y ∧ Q y (setP ρ p (.lst (some a) l.dropLast))
  | _ => False
theorem reps_dropLast {K : PySem.W.Frag} {Z H : Hp} {l : List D} {vs : List V} (r : Reps K Z H l vs) : Reps K Z H l.dropLast vs.dropLast := by
  rw [List.dropLast_eq_take, List.dropLast_eq_take, r.length]
  exact r.take _
theorem relist_out {K : PySem.W.Frag} {n : Nat} {Z H : Hp} {σ : L2.St} {ρ : Env} {p : Path} {a : Addr} {l l' : List D} {vs vs' : List V} {y : D} {u : V} (s : St K n Z H σ ρ) (hg : getP ρ p = some (.lst (some a) l)) (hv : H a = some (.lst vs)) (r' : Reps K Z H l' vs') (hl' : owns l' = []) (ry : Rep K Z H y u) (oy : own y = []) :
    Out K n Z H (eo ρ) σ Z (upd H a (.lst vs')) u y (setP ρ p (.lst (some a) l')) := by
  obtain ⟨za, _, na1, na2, pm, re'⟩ := s.relist hg
  have hin : a ∈ eo ρ := pm.mem_iff.mpr (List.mem_cons_self ..)
  have nd := pm.nodup_iff.mp s.nd
  have nd' : (a :: owns l' ++ eo (setP ρ p (lent a))).Nodup := by
    rw [hl']
    show (a :: eo (setP ρ p (lent a))).Nodup
    exact List.nodup_cons.mpr ⟨na2, (List.nodup_append.mp (List.nodup_cons.mp nd).2).2.1⟩
  obtain ⟨s2, pm2⟩ := re' l' vs' (r'.upd_out (by rw [hl']; exact List.not_mem_nil)) nd'
  refine ⟨s2, ry.upd_out (by rw [oy]; exact List.not_mem_nil), nd_of_nil oy s2.nd, ?_⟩
  rw [oy]
  refine step_upd hin fun c hc => .inl ?_
  have hm := pm2.mem_iff.mp hc
  rw [hl'] at hm
  rcases List.mem_cons.mp hm with z | z
  · rw [z]; exact hin
  · exact pm.mem_iff.mpr (List.mem_cons_of_mem _ (List.mem_append_right _ z))
theorem de_pop (ho : DPath X o wl) (hbase : attributeBase o "pop" X.env (eval o X.env) = eval o X.env := by rfl) (hline : (apos.endLine == cpos.line) = true := by rfl) :
    DE X W (.Call (.Attribute o "pop" apos) [] [] cpos) (ePop wl) := by
  obtain ⟨to, po', ro⟩ := ho
  refine ⟨_, pe_bm0 PySem.F.plainAttrs_list PySem.F.slot_list_pop PySem.F.type_list_pop mt_pop po' hbase hline, fun σ H Z ρ Q Qx s w fx QQ q => ?_⟩
  refine ro σ H Z ρ _ s w _ fun v p d wd hg rd => ?_
  cases d with
  | lst m l => cases m with
    | none => exact wd.elim
    | some a =>
      obtain ⟨hl, y, hy, wq⟩ := wd
      obtain ⟨za, ⟨vs, hv, hr⟩, na1, na2, pm, re'⟩ := s.relist hg
      have hy' : l[l.length - 1]? = some y := by rw [← List.getLast?_eq_getElem?]; exact hy
      obtain ⟨u, hu, ru⟩ := hr.get hy'
      have oy : own y = [] := owns_nil.mp hl y (List.mem_of_getElem? hy')
      refine ⟨by rw [rd.1]; exact .inl ⟨rfl, vs, SqL.of hv⟩, a, vs, u, rd.1, rfl, hv, by rw [hr.length]; exact hu, ?_⟩
      refine q u y _ Z _ wq (relist_out s hg hv (reps_dropLast hr) ?_ ru oy)
      rw [List.dropLast_eq_take]; exact owns_take hl
  | _ => exact wd.elim
def ePopAt (wl : Lw) (wp : Pw) : Ew := fun ρ Q _ => wl ρ fun p d => match d with
  | .lst (some a) l => wp ρ fun j => match j with
    | .int i => owns l = [] ∧ ∃ k y, seqIndex? i l.length = some k ∧ -(2 ^ 63) ≤ i ∧ i < 2 ^ 63 ∧ l[k]? = some y ∧ Q y (setP ρ p (.lst (some a) (l.eraseIdx k)))
    | _ => False
  | _ => False
theorem reps_erase {K : PySem.W.Frag} {Z H : Hp} : ∀ {l : List D} {vs : List V} (k : Nat), Reps K Z H l vs → Reps K Z H (l.eraseIdx k) (vs.eraseIdx k)
  | [], vs, k, r => by rw [show vs = [] from r]; rfl
  | d :: l, vs, 0, r => by obtain ⟨v, vr, rfl, r1, r2⟩ := r; exact r2
  | d :: l, vs, k + 1, r => by
    obtain ⟨v, vr, rfl, r1, r2⟩ := r
    exact ⟨v, vr.eraseIdx k, rfl, r1, reps_erase k r2⟩
theorem owns_erase {l : List D} {k : Nat} (h : owns l = []) : owns (l.eraseIdx k) = [] := owns_nil.mpr fun d hd => owns_nil.mp h d (List.mem_of_mem_eraseIdx hd)
theorem de_popAt (ho : DPath X o wl) (hi : DP X i wp) (hbase : attributeBase o "pop" X.env (eval o X.env) = eval o X.env := by rfl)
    (hfew : ((backTo cpos (starEach (i :: []) X.env)).all (fun x => !x.1) && (backToKw cpos (keywordEach [] X.env)).all (fun x => x.1.isSome) && decide ((i :: []).length + ([] : List Keyword).length + (if ([] : List Keyword).isEmpty then 0 else 1) < 30)) = true := by rfl)
    (hline : (apos.endLine == cpos.line) = true := by rfl) (hs : starEach (i :: []) X.env = (false, eval i X.env) :: starEach [] X.env := by rfl) (hplain : (backTo cpos (starEach [] X.env)).any (·.1) = false := by rfl) :
    DE X W (.Call (.Attribute o "pop" apos) [i] [] cpos) (ePopAt wl wp) := by
  obtain ⟨to, po', ro⟩ := ho
  obtain ⟨ti, pi', ri⟩ := hi
  refine ⟨_, pe_bm PySem.F.plainAttrs_list PySem.F.slot_list_pop PySem.F.type_list_pop mt_popAt po' (pa_cons pi' pa_nil hs) hbase hfew hline hs hplain, fun σ H Z ρ Q Qx s w fx QQ q => ?_⟩
  refine ro σ H Z ρ _ s w _ fun v p d wd hg rd => ?_
  have rd2 := rd
  cases d with
  | lst m l => cases m with
    | none => exact wd.elim
    | some a =>
      obtain ⟨ev, _, vs0, hv0, _⟩ := rd2
      refine ⟨by rw [ev]; exact .inl ⟨rfl, vs0, SqL.of hv0⟩, ?_⟩
      refine ri σ H Z ρ _ s wd _ fun x j wj rj => ?_
      cases j with
      | int ii =>
        obtain ⟨hl, k, y, hk, h1, h2, hy, wq⟩ := wj
        obtain ⟨za, ⟨vs, hv, hr⟩, na1, na2, pm, re'⟩ := s.relist hg
        obtain ⟨u, hu, ru⟩ := hr.get hy
        have oy : own y = [] := owns_nil.mp hl y (List.mem_of_getElem? hy)
        refine ⟨a, vs, ii, k, u, ev, by rw [show x = .int ii from rj], hv, h1, h2, by rw [hr.length]; exact hk, hu, ?_⟩
        exact q u y _ Z _ wq (relist_out s hg hv (reps_erase k hr) (owns_erase hl) ru oy)
      | _ => exact wj.elim
  | _ => exact wd.elim
/-- xs.insert(i, y) -/
def eIns (wl : Lw) (wq wp : Pw) : Ew := fun ρ Q _ => wl ρ fun p d => match d with
  | .lst (some a) l => wq ρ fun j => match j with
    | .int i => wp ρ fun y => owns l = [] ∧ own y = [] ∧ l.length < sizeLine ∧ 0 ≤ i ∧ i < 2 ^ 63 ∧ Q .non (setP ρ p (.lst (some a) (l.take i.toNat ++ [y] ++ l.drop i.toNat)))
    | _ => False
  | _ => False
theorem de_ins (ho : DPath X o wl) (hi : DP X i wq) (he : DP X e wp) (hbase : attributeBase o "insert" X.env (eval o X.env) = eval o X.env := by rfl)
    (hfew : ((backTo cpos (starEach (i :: [e]) X.env)).all (fun x => !x.1) && (backToKw cpos (keywordEach [] X.env)).all (fun x => x.1.isSome) && decide ((i :: [e]).length + ([] : List Keyword).length + (if ([] : List Keyword).isEmpty then 0 else 1) < 30)) = true := by rfl)
    (hline : (apos.endLine == cpos.line) = true := by rfl) (hs : starEach (i :: [e]) X.env = (false, eval i X.env) :: starEach [e] X.env := by rfl) (hs2 : starEach (e :: []) X.env = (false, eval e X.env) :: starEach [] X.env := by rfl) (hplain : (backTo cpos (starEach [e] X.env)).any (·.1) = false := by rfl) :
    DE X W (.Call (.Attribute o "insert" apos) [i, e] [] cpos) (eIns wl wq wp) := by
  obtain ⟨to, po', ro⟩ := ho
  obtain ⟨ti, pi', ri⟩ := hi
  obtain ⟨te, pe', re⟩ := he
  refine ⟨_, pe_bm PySem.F.plainAttrs_list PySem.F.slot_list_insert PySem.F.type_list_insert mt_insert po' (pa_cons pi' (pa_cons pe' pa_nil hs2) hs) hbase hfew hline hs hplain, fun σ H Z ρ Q Qx s w fx QQ q => ?_⟩
  refine ro σ H Z ρ _ s w _ fun v p d wd hg rd => ?_
  have rd2 := rd
  cases d with
  | lst m l => cases m with
    | none => exact wd.elim
    | some a =>
      obtain ⟨ev, _, vs0, hv0, _⟩ := rd2
      refine ⟨by rw [ev]; exact .inl ⟨rfl, vs0, SqL.of hv0⟩, ?_⟩
      refine ri σ H Z ρ _ s wd _ fun x j wj rj => ?_
      cases j with
      | int ii =>
        refine re σ H Z ρ _ s wj _ fun u y wy ry => ?_
        obtain ⟨hl, oy, hsz, h0, h1, wq⟩ := wy
        obtain ⟨za, ⟨vs, hv, hr⟩, na1, na2, pm, re'⟩ := s.relist hg
        refine ⟨a, vs, ii, u, ev, by rw [show x = .int ii from rj], hv, by rw [hr.length]; exact hsz, h0, h1, ?_⟩
        refine q .non .non _ Z _ wq (relist_out s hg hv (((hr.take _).append (Reps.one ry)).append (hr.drop _)) ?_ rfl rfl)
        rw [owns_append, owns_append, owns_one, oy, owns_take hl, owns_drop hl]; rfl
      | _ => exact wj.elim
  | _ => exact wd.elim
/-- t[::-1] of a list or a tuple -/
def eRevS (wp : Pw) : Ew := fun ρ Q Qx => eRevL wp ρ Q Qx ∨ eRevT wp ρ Q Qx
theorem pe_either {t1 t2 : TE} (h1 : PE X e t1) (h2 : PE X e t2) : PE X e (fun σ H Q => t1 σ H Q ∨ t2 σ H Q) := ⟨fun pins s σ H Q I h => h.elim (h1.run pins s σ H Q I) (h2.run pins s σ H Q I)⟩
theorem de_either {we wf : Ew} (h1 : DE X W e we) (h2 : DE X W e wf) : DE X W e (fun ρ Q Qx => we ρ Q Qx ∨ wf ρ Q Qx) := by
  obtain ⟨t1, p1, r1⟩ := h1
  obtain ⟨t2, p2, r2⟩ := h2
  exact ⟨_, pe_either p1 p2, fun σ H Z ρ Q Qx s w fx QQ q => w.elim (fun w => .inl (r1 σ H Z ρ Q Qx s w fx QQ q)) (fun w => .inr (r2 σ H Z ρ Q Qx s w fx QQ q))⟩
theorem de_revS {k : Nat} {q1 q2 q3 : Pos} (ha : DP X e wp) : DE X W (.Subscript e (.Slice none none (some (.UnaryOp .USub (.Constant (.int 1) k q1) q2)) q3) pos) (eRevS wp) := de_either (de_revL ha) (de_revT ha)
theorem revS {ρ : Env} {Q : D → Env → Prop} {Qx : QX} {d : D} {l : List D} (h : PV wp ρ d) (hd : isSeq d l) (n : owns l = []) (q : ∀ d', seqD d' = some l.reverse → (d' = .tup l.reverse ∨ ∃ p, d' = .lst (some p) l.reverse) → Q d' ρ) : eRevS wp ρ Q Qx := by
  rcases hd with rfl | rfl
  · exact .inr (h _ ⟨n, q _ rfl (.inl rfl)⟩)
  · exact .inl (h _ ⟨n, fun p => q _ rfl (.inr ⟨p, rfl⟩)⟩)
end
end DL
set_option Elab.async false
set_option linter.all false
set_option maxRecDepth 100000
set_option maxHeartbeats 2000000
namespace DL
open PySem PySem.Spec PyProof.Rows L2
/-! ### the units of a sequence -/
def flat (l : List (Int × Int)) : List Int := l.flatMap fun x => List.replicate x.2.toNat x.1
def grp (u : List Int) : List (Int × Int) := norm (u.map fun x => (x, 1))
def PosL (l : List (Int × Int)) : Prop := ∀ x ∈ l, 0 < x.2
def Adj (l : List (Int × Int)) : Prop := ∀ (i : Nat) x y, l[i]? = some x → l[i + 1]? = some y → x.1 ≠ y.1
theorem flat_nil : flat [] = [] := rfl
theorem flat_cons (x : Int × Int) (l) : flat (x :: l) = List.replicate x.2.toNat x.1 ++ flat l := by unfold flat; rw [List.flatMap_cons]
theorem flat_append (a b) : flat (a ++ b) = flat a ++ flat b := by unfold flat; rw [List.flatMap_append]
theorem flat_one (x : Int × Int) : flat [x] = List.replicate x.2.toNat x.1 := by rw [flat_cons, flat_nil, List.append_nil]
theorem flat_reverse : ∀ l, flat l.reverse = (flat l).reverse
  | [] => rfl
  | x :: l => by rw [List.reverse_cons, flat_append, flat_reverse l, flat_one, flat_cons, List.reverse_append, List.reverse_replicate]
theorem PosL.rev {l} (h : PosL l) : PosL l.reverse := fun x hx => h x (List.mem_reverse.mp hx)
theorem PosL.app {a b} (h : PosL a) (h2 : PosL b) : PosL (a ++ b) := fun x hx => (List.mem_append.mp hx).elim (h x) (h2 x)
theorem PosL.left {a b} (h : PosL (a ++ b)) : PosL a := fun x hx => h x (List.mem_append_left _ hx)
theorem PosL.right {a b} (h : PosL (a ++ b)) : PosL b := fun x hx => h x (List.mem_append_right _ hx)
theorem posL_nil : PosL [] := fun _ h => absurd h List.not_mem_nil
theorem posL_one {x : Int × Int} (h : 0 < x.2) : PosL [x] := fun y hy => by rw [List.mem_singleton.mp hy]; exact h
theorem nstep_nil (x) : nstep [] x = [x] := rfl
theorem nstep_app (r : List (Int × Int)) (y x : Int × Int) : nstep (r ++ [y]) x = if y.1 = x.1 then r ++ [(x.1, y.2 + x.2)] else r ++ [y] ++ [x] := by
  unfold nstep
  rw [show (r ++ [y]).getLast? = some y by simp]
  show (if y.1 = x.1 then (r ++ [y]).dropLast ++ [(x.1, y.2 + x.2)] else r ++ [y] ++ [x]) = _
  rw [List.dropLast_concat]
theorem last_cases (l : List (Int × Int)) : l = [] ∨ ∃ r y, l = r ++ [y] := by
  rcases List.eq_nil_or_concat l with h | ⟨r, y, h⟩
  · exact .inl h
  · exact .inr ⟨r, y, by rw [h, List.concat_eq_append]⟩
theorem nstep2 (rows : List (Int × Int)) (p a b : Int) : nstep (nstep rows (p, a)) (p, b) = nstep rows (p, a + b) := by
  rcases last_cases rows with rfl | ⟨r, y, rfl⟩
  · show nstep ([] ++ [(p, a)]) (p, b) = [(p, a + b)]
    rw [nstep_app, if_pos rfl]; rfl
  · rw [nstep_app, nstep_app]
    by_cases h : y.1 = p
    · rw [if_pos h, if_pos h, nstep_app, if_pos rfl, Int.add_assoc]
    · rw [if_neg h, if_neg h, nstep_app, if_pos rfl]
theorem fold_rep (p : Int) : ∀ (n : Nat) (rows : List (Int × Int)), (List.replicate (n + 1) (p, (1 : Int))).foldl nstep rows = nstep rows (p, (n : Int) + 1)
  | 0, rows => rfl
  | n + 1, rows => by
    rw [List.replicate_succ, List.foldl_cons, fold_rep p n, nstep2]
    congr 2; omega
theorem fold_flat : ∀ (l rows : List (Int × Int)), PosL l → ((flat l).map fun x => (x, (1 : Int))).foldl nstep rows = l.foldl nstep rows
  | [], rows, _ => rfl
  | x :: l, rows, h => by
    have hx := h x (List.mem_cons_self ..)
    rw [flat_cons, List.map_append, List.foldl_append, List.foldl_cons, List.map_replicate]
    have e : x.2.toNat = (x.2.toNat - 1) + 1 := by omega
    rw [e, fold_rep, show (((x.2.toNat - 1 : Nat) : Int) + 1) = x.2 by omega]
    exact fold_flat l _ fun y hy => h y (List.mem_cons_of_mem _ hy)
theorem norm_grp {l} (h : PosL l) : norm l = grp (flat l) := (fold_flat l [] h).symm
theorem nstep_pos {rows : List (Int × Int)} {x : Int × Int} (h : PosL rows) (hx : 0 < x.2) : PosL (nstep rows x) ∧ flat (nstep rows x) = flat rows ++ List.replicate x.2.toNat x.1 := by
  rcases last_cases rows with rfl | ⟨r, y, rfl⟩
  · exact ⟨posL_one hx, by rw [nstep_nil, flat_one]; rfl⟩
  · rw [nstep_app]
    have hy := h.right y (List.mem_cons_self ..)
    by_cases e : y.1 = x.1
    · rw [if_pos e]
      refine ⟨h.left.app (posL_one (by show 0 < y.2 + x.2; omega)), ?_⟩
      rw [flat_append, flat_append, flat_one, flat_one, List.append_assoc, e, List.replicate_append_replicate]
      congr 2
      show (y.2 + x.2).toNat = _
      omega
    · rw [if_neg e]
      exact ⟨h.app (posL_one hx), by rw [flat_append, flat_one]⟩
theorem fold_pos : ∀ (l rows : List (Int × Int)), PosL l → PosL rows → PosL (l.foldl nstep rows) ∧ flat (l.foldl nstep rows) = flat rows ++ flat l
  | [], rows, _, h => ⟨h, by rw [flat_nil, List.append_nil]; rfl⟩
  | x :: l, rows, h, hr => by
    have n := nstep_pos hr (h x (List.mem_cons_self ..))
    have i := fold_pos l (nstep rows x) (fun y hy => h y (List.mem_cons_of_mem _ hy)) n.1
    refine ⟨i.1, ?_⟩
    rw [List.foldl_cons, i.2, n.2, flat_cons, List.append_assoc]
theorem posL_norm {l} (h : PosL l) : PosL (norm l) := (fold_pos l [] h posL_nil).1
theorem flat_norm {l} (h : PosL l) : flat (norm l) = flat l := (fold_pos l [] h posL_nil).2
theorem posL_units (u : List Int) : PosL (u.map fun x => (x, (1 : Int))) := fun x hx => by
  obtain ⟨y, _, rfl⟩ := List.mem_map.mp hx; exact (by decide : (0 : Int) < 1)
theorem flat_units : ∀ u : List Int, flat (u.map fun x => (x, (1 : Int))) = u
  | [] => rfl
  | x :: u => by rw [List.map_cons, flat_cons, flat_units u]; rfl
theorem posL_grp (u) : PosL (grp u) := posL_norm (posL_units u)
theorem flat_grp (u) : flat (grp u) = u := by unfold grp; rw [flat_norm (posL_units u), flat_units]
theorem adj_nil : Adj [] := fun i x y h => by cases h
theorem Adj.app {l : List (Int × Int)} {x : Int × Int} (h : Adj l) (hl : ∀ y, l.getLast? = some y → y.1 ≠ x.1) : Adj (l ++ [x]) := by
  intro i a b ha hb
  have hi : i + 1 < (l ++ [x]).length := lt_of_get hb
  rw [List.length_append] at hi
  simp at hi
  rw [List.getElem?_append_left (by omega)] at ha
  by_cases q : i + 1 < l.length
  · rw [List.getElem?_append_left q] at hb
    exact h i a b ha hb
  · rw [List.getElem?_append_right (by omega), show i + 1 - l.length = 0 by omega] at hb
    cases hb
    exact hl a (by rw [List.getLast?_eq_getElem?, show l.length - 1 = i by omega]; exact ha)
theorem Adj.left {a b : List (Int × Int)} (h : Adj (a ++ b)) : Adj a := fun i x y hx hy => h i x y (by rw [List.getElem?_append_left (lt_of_get hx)]; exact hx) (by rw [List.getElem?_append_left (lt_of_get hy)]; exact hy)
theorem Adj.last {r : List (Int × Int)} {y x : Int × Int} (h : Adj (r ++ [y] ++ [x])) : y.1 ≠ x.1 := by
  refine h r.length y x ?_ ?_
  · rw [List.getElem?_append_left (by simp), List.getElem?_append_right (Nat.le_refl _), Nat.sub_self]; rfl
  · rw [List.getElem?_append_right (by simp)]; simp
theorem nstep_adj {rows : List (Int × Int)} {x : Int × Int} (h : Adj rows) : Adj (nstep rows x) := by
  rcases last_cases rows with rfl | ⟨r, y, rfl⟩
  · exact adj_nil.app (fun y h => by cases h)
  · rw [nstep_app]
    by_cases e : y.1 = x.1
    · rw [if_pos e]
      refine h.left.app fun z hz => ?_
      rcases last_cases r with rfl | ⟨r2, w, rfl⟩
      · cases hz
      · rw [show (r2 ++ [w]).getLast? = some w by simp] at hz
        rw [← Option.some.inj hz, ← e]; exact h.last
    · rw [if_neg e]
      exact h.app fun z hz => by rw [show (r ++ [y]).getLast? = some y by simp] at hz; cases hz; exact e
theorem fold_adj : ∀ (l rows : List (Int × Int)), Adj rows → Adj (l.foldl nstep rows)
  | [], rows, h => h
  | x :: l, rows, h => fold_adj l _ (nstep_adj h)
theorem adj_norm (l) : Adj (norm l) := fold_adj l [] adj_nil
theorem adj_grp (u) : Adj (grp u) := adj_norm _
theorem norm_app (l : List (Int × Int)) (x) : norm (l ++ [x]) = nstep (norm l) x := by unfold norm; rw [List.foldl_append]; rfl
theorem norm_self : ∀ (n : Nat) (l : List (Int × Int)), l.length = n → Adj l → norm l = l
  | 0, l, h, _ => by rw [List.length_eq_zero_iff.mp h]; rfl
  | n + 1, l, h, a => by
    rcases last_cases l with rfl | ⟨r, y, rfl⟩
    · rfl
    · rw [norm_app, norm_self n r (by simp at h; omega) a.left]
      rcases last_cases r with rfl | ⟨r2, w, rfl⟩
      · rfl
      · rw [nstep_app, if_neg a.last]
theorem Adj.rev {l : List (Int × Int)} (h : Adj l) : Adj l.reverse := by
  intro i x y hx hy
  have i1 := lt_of_get hx
  have i2 := lt_of_get hy
  rw [List.length_reverse] at i1 i2
  rw [List.getElem?_reverse i1] at hx
  rw [List.getElem?_reverse i2] at hy
  refine (h (l.length - 1 - (i + 1)) y x hy ?_).symm
  rw [show l.length - 1 - (i + 1) + 1 = l.length - 1 - i by omega]; exact hx
theorem norm_of_adj {l} (h : Adj l) : norm l = l := norm_self _ l rfl h
theorem grp_of {l} (h : PosL l) (a : Adj l) : grp (flat l) = l := by rw [← norm_grp h, norm_of_adj a]
theorem grp_rev (u) : grp u.reverse = (grp u).reverse := by
  have := grp_of (posL_grp u).rev (adj_grp u).rev
  rw [flat_reverse, flat_grp] at this
  exact this
def tots (l : List (Int × Int)) : Int := (l.map fun x => x.2).sum
theorem flat_len : ∀ {l}, PosL l → ((flat l).length : Int) = tots l
  | [], _ => rfl
  | x :: l, h => by
    have hx := h x (List.mem_cons_self ..)
    have i := flat_len (l := l) fun y hy => h y (List.mem_cons_of_mem _ hy)
    rw [flat_cons, List.length_append, List.length_replicate]
    show ((x.2.toNat + (flat l).length : Nat) : Int) = (x.2 :: l.map fun x => x.2).sum
    rw [List.sum_cons]
    unfold tots at i
    omega
/-! ### a sequence is cut after so many units -/
def cutA : Int → List (Int × Int) → List (Int × Int)
  | _, [] => []
  | n, x :: l => (if 0 < min n x.2 then [(x.1, min n x.2)] else []) ++ cutA (n - min n x.2) l
def cutB : Int → List (Int × Int) → List (Int × Int)
  | _, [] => []
  | n, x :: l => (if min n x.2 < x.2 then [(x.1, x.2 - min n x.2)] else []) ++ cutB (n - min n x.2) l
theorem cut_flat : ∀ (l : List (Int × Int)) (n : Int), PosL l → 0 ≤ n → PosL (cutA n l) ∧ PosL (cutB n l) ∧ flat (cutA n l) = (flat l).take n.toNat ∧ flat (cutB n l) = (flat l).drop n.toNat
  | [], n, _, _ => ⟨posL_nil, posL_nil, by rw [flat_nil]; simp [cutA, flat_nil], by rw [flat_nil]; simp [cutB, flat_nil]⟩
  | x :: l, n, h, hn => by
    have hx := h x (List.mem_cons_self ..)
    obtain ⟨i1, i2, i3, i4⟩ := cut_flat l (n - min n x.2) (fun y hy => h y (List.mem_cons_of_mem _ hy)) (by omega)
    have e1 : (n - min n x.2).toNat = n.toNat - x.2.toNat := by omega
    unfold cutA cutB
    refine ⟨?_, ?_, ?_, ?_⟩
    · refine PosL.app ?_ i1
      split
      · exact posL_one (by assumption)
      · exact posL_nil
    · refine PosL.app ?_ i2
      split
      · exact posL_one (by show 0 < x.2 - min n x.2; omega)
      · exact posL_nil
    · rw [flat_append, i3, flat_cons, List.take_append, e1, List.length_replicate]
      congr 1
      split
      · rw [flat_one, List.take_replicate]
        show List.replicate (min n x.2).toNat x.1 = _
        congr 1; omega
      · rw [show n.toNat = 0 by omega]; rfl
    · rw [flat_append, i4, flat_cons, List.drop_append, e1, List.length_replicate]
      congr 1
      split
      · rw [flat_one, List.drop_replicate]
        show List.replicate (x.2 - min n x.2).toNat x.1 = _
        congr 1; omega
      · rw [List.drop_replicate, show x.2.toNat - n.toNat = 0 by omega]; rfl
end DL
set_option Elab.async false
set_option linter.all false
set_option maxRecDepth 100000
set_option maxHeartbeats 4000000
namespace DL
open PySem PySem.Spec PyProof.Rows L2
theorem own_ints (l : List Int) : owns (l.map D.int) = [] := owns_map_nil (fun _ => rfl) l
theorem lc_map {α : Type} {xs : List α} {enc f : α → D} {wa we : Ew} {ρ : Env} {Q : D → Env → Prop} {Qx : QX} {d : D} {k : Nat} (hw : ∀ R : D → Env → Prop, R d ρ → wa ρ R Qx) (hd : d = .tup (xs.map enc) ∨ d = .lst none (xs.map enc) ∨ d = .lsk (xs.map enc)) (hl : xs.length < 100000)
    (hv : ∀ x ∈ xs, ∀ R : D → Env → Prop, (∀ ρ', wipeE ρ' [k] = wipeE ρ [k] → R (f x) ρ') → we ((wipeE ρ [k]).set k (some (enc x))) R (fun _ _ => False)) (q : ∀ p, Q (.lst (some p) (xs.map f)) (wipeE ρ [k])) : eLc (iSq wa) (gNm k) tAll we [k] ρ Q Qx := by
  have w2 : wipeE (wipeE ρ [k]) [k] = wipeE ρ [k] := by show (ρ.set k none).set k none = ρ.set k none; rw [List.set_set]
  refine lc_seq hw hd (fun i acc ρ' => acc = (xs.take i).map f ∧ ρ' = wipeE ρ [k]) ⟨rfl, rfl⟩ ?_ ?_
  · rintro i e acc ρ2 he ⟨rfl, rfl⟩
    obtain ⟨x, hx, rfl⟩ := getq_map he
    have hi := lt_of_get hx
    dsimp only [LcStep, gNm, tAll]
    rw [w2]
    refine iteT (hv x (List.mem_of_getElem? hx) _ fun ρ' h' => ⟨size_lt ?_, ?_, h'⟩)
    · rw [List.length_map, List.length_take]; omega
    · rw [List.take_add_one, hx, List.map_append]; rfl
  · rintro acc ρ2 ⟨rfl, rfl⟩ p
    rw [List.length_map, List.take_length]
    exact q p
theorem xtp' {wa : Ew} {g : Gw} {wt : Tw} {we : Ew} {vs : List Nat} {ρ : Env} {Q : D → Env → Prop} {Qx : QX} (h : wa ρ (fun d ρ1 => match d with
  | .tup l => ∃ Inv : Nat → List D → Env → Prop, Inv 0 [] (wipeE ρ1 vs) ∧
    (∀ i d acc ρ2, l[i]? = some d → Inv i acc ρ2 → LcStep g wt we vs Inv i d acc ρ2) ∧
    (∀ acc ρ2, Inv l.length acc ρ2 → ∀ p, Q (.lst (some p) acc) ρ2)
  | _ => False) Qx) : eLc (iTp wa) g wt we vs ρ Q Qx := h
theorem e_sumlc {α : Type} {xs : List α} {enc : α → D} {g : α → Int} {wa we : Ew} {ρ : Env} {Q : D → Env → Prop} {Qx : QX} {d : D} {k : Nat} (hw : ∀ R : D → Env → Prop, R d ρ → wa ρ R Qx) (hd : d = .tup (xs.map enc) ∨ d = .lst none (xs.map enc) ∨ d = .lsk (xs.map enc)) (hl : xs.length < 100000)
    (hv : ∀ x ∈ xs, ∀ R : D → Env → Prop, (∀ ρ', wipeE ρ' [k] = wipeE ρ [k] → R (.int (g x)) ρ') → we ((wipeE ρ [k]).set k (some (enc x))) R (fun _ _ => False)) (q : Q (.int (xs.map g).sum) (wipeE ρ [k])) : eCallB rdSum (aVal (eKeep (eLc (iSq wa) (gNm k) tAll we [k])) aNil) ρ Q Qx := by
  refine xval (xkeep (lc_map (f := fun x => .int (g x)) hw hd hl hv fun p => ?_))
  have e : xs.map (fun x => D.int (g x)) = (xs.map g).map D.int := by rw [List.map_map]; rfl
  rw [e]
  refine ⟨own_ints _, ?_, ?_⟩
  · show owns ((xs.map g).map D.int) ++ [] = []
    rw [own_ints]; rfl
  · show (match intsOf ((xs.map g).map D.int) with
      | some ns => Q (.int ns.sum) _
      | none => False)
    rw [intsOf_map]; exact q
theorem xwhile {wt : Tw} {wb : Sw} {D0 : DEnds} {ρ : Env} (Inv : Nat → Env → Prop) (h0 : ∃ m, Inv m ρ) (hs : ∀ m ρ1, Inv m ρ1 → wt ρ1 (fun b ρ2 => if b = true then wb { D0 with nx := fun ρ3 => ∃ m', m' < m ∧ Inv m' ρ3, ct := fun ρ3 => ∃ m', m' < m ∧ Inv m' ρ3, bk := D0.nx } ρ2 else D0.nx ρ2) D0.xx) : sWhile wt wb D0 ρ := by
  rw [sWhile_eq]; exact ⟨Inv, h0, hs⟩
theorem xaug {i : Nat} {g : Int → Int → Int} {wp : Pw} {D0 : DEnds} {ρ : Env} {x y : Int} (h : ρ[i]? = some (some (.int x))) (hp : PV wp ρ (.int y)) (q : D0.nx (ρ.set i (some (.int (g x y))))) : sAug i g (ePure wp) D0 ρ := by
  unfold sAug
  rw [h]
  exact e_pure (Qx := D0.xx) hp rfl q
def pick (u v w k : Int) : Int := if k = 0 then u else if k = 1 then v else w
theorem pick_b {u v w k : Int} {P : Int → Prop} (h1 : P u) (h2 : P v) (h3 : P w) : P (pick u v w k) := by
  unfold pick; split
  · exact h1
  · split
    · exact h2
    · exact h3
theorem e_ix3 {u v w k : Int} {wp : Pw} {ρ : Env} {Q : D → Env → Prop} {Qx : QX} (hp : PV wp ρ (.int k)) (k0 : 0 ≤ k) (k1 : k < 3) (q : Q (.int (pick u v w k)) ρ) : eIx (eTup (aVal (ePure (pC (.int u))) (aVal (ePure (pC (.int v))) (aVal (ePure (pC (.int w))) aNil)))) (ePure wp) ρ Q Qx := by
  refine xix (xtup (a_pure pv_c rfl (a_pure pv_c rfl (a_pure pv_c rfl ⟨rfl, size_le (by show 3 ≤ 100000; decide), rfl, e_pure hp rfl ?_⟩))))
  have hk : k = 0 ∨ k = 1 ∨ k = 2 := by omega
  rcases hk with rfl | rfl | rfl
  · exact ix_tup rfl ⟨rfl, q⟩
  · exact ix_tup rfl ⟨rfl, q⟩
  · exact ix_tup rfl ⟨rfl, q⟩
theorem fin_p2 {a : Addr} {d d' e : D} {o : Option D} {ρ : Env} {R : List D → Prop} (h : Pool a d) (h' : Pool a d') (he : own e = []) (r : R [d', e]) : fin [d, e] (some d' :: o :: ρ) R := .inr ⟨a, d', pool_addr h, rfl, pool_addr h', .inl ⟨he, r⟩⟩
theorem xlc {wi : Iw} {g : Gw} {wt : Tw} {we : Ew} {vs : List Nat} {ρ : Env} {Q : D → Env → Prop} {Qx : QX} (h : wi ρ (fun l ρ1 => ∃ Inv : Nat → List D → Env → Prop, Inv 0 [] (wipeE ρ1 vs) ∧
    (∀ i d acc ρ2, l[i]? = some d → Inv i acc ρ2 → LcStep g wt we vs Inv i d acc ρ2) ∧
    (∀ acc ρ2, Inv l.length acc ρ2 → ∀ p, Q (.lst (some p) acc) ρ2)) Qx) : eLc wi g wt we vs ρ Q Qx := h
theorem x_frz {ρ : Env} {i : Nat} {m : Option Addr} {l : List D} {Q : D → Env → Prop} {Qx : QX} (h : ρ[i]? = some (some (.lst m l))) (n : owns l = []) (q : Q (.lst none l) (ρ.set i (some (.lst none l)))) : eFrz i ρ Q Qx := by
  unfold eFrz
  rw [h]
  exact ⟨n, q⟩
theorem e_sumls {α : Type} {xs : List α} {enc : α → D} {g : α → Int} {we : Ew} {ρ : Env} {Q : D → Env → Prop} {Qx : QX} {m : Option Addr} {k i : Nat} (h : ρ[i]? = some (some (.lst m (xs.map enc)))) (hn : owns (xs.map enc) = []) (hl : xs.length < 100000)
    (hv : ∀ x ∈ xs, ∀ R : D → Env → Prop, (∀ ρ', wipeE ρ' [k] = wipeE (ρ.set i (some (.lst none (xs.map enc)))) [k] → R (.int (g x)) ρ') → we ((wipeE (ρ.set i (some (.lst none (xs.map enc)))) [k]).set k (some (enc x))) R (fun _ _ => False)) (q : Q (.int (xs.map g).sum) (wipeE (ρ.set i (some (.lst none (xs.map enc)))) [k])) : eCallB rdSum (aVal (eKeep (eLc (iLs (eFrz i)) (gNm k) tAll we [k])) aNil) ρ Q Qx := by
  have w2 : ∀ ρ : Env, wipeE (wipeE ρ [k]) [k] = wipeE ρ [k] := fun ρ => by show (ρ.set k none).set k none = ρ.set k none; rw [List.set_set]
  refine xval (xkeep (xlc ?_))
  refine x_frz (Qx := Qx) h hn ?_
  refine ⟨fun i acc ρ' => acc = ((xs.take i).map g).map D.int ∧ ρ' = wipeE (ρ.set _ (some (.lst none (xs.map enc)))) [k], ⟨rfl, rfl⟩, ?_, ?_⟩
  · rintro i e acc ρ2 he ⟨rfl, rfl⟩
    obtain ⟨x, hx, rfl⟩ := getq_map he
    have hi := lt_of_get hx
    dsimp only [LcStep, gNm, tAll]
    rw [w2]
    refine iteT (hv x (List.mem_of_getElem? hx) _ fun ρ' h' => ⟨size_lt ?_, ?_, h'⟩)
    · rw [List.length_map, List.length_map, List.length_take]; omega
    · rw [List.take_add_one, hx, List.map_append, List.map_append]; rfl
  · rintro acc ρ2 ⟨rfl, rfl⟩ p
    rw [List.length_map, List.take_length]
    refine ⟨own_ints _, ?_, ?_⟩
    · show owns ((xs.map g).map D.int) ++ [] = []
      rw [own_ints]; rfl
    · show (match intsOf ((xs.map g).map D.int) with
        | some ns => Q (.int ns.sum) _
        | none => False)
      rw [intsOf_map]; exact q
theorem e_tupE {we : Ew} {ρ : Env} {Q : D → Env → Prop} {Qx : QX} (h : we ρ (fun d ρ' => match seqD d with
  | some l => owns l = [] ∧ Q (.tup l) ρ'
  | none => False) Qx) : eTupE we ρ Q Qx := h
theorem xtp {wa : Ew} {ρ : Env} {Qx : QX} {QI : List D → Env → Prop} (h : wa ρ (fun d ρ' => match d with
  | .tup l => QI l ρ'
  | _ => False) Qx) : iTp wa ρ QI Qx := h
theorem dat_ints (l : List Int) (h : l.length < 100000) : Dat 1 (.tup (l.map .int)) := ⟨by rw [List.length_map]; exact h, fun d hd => by
  obtain ⟨i, _, rfl⟩ := List.mem_map.mp hd
  exact True.intro⟩
def LendQ (dsp : DSp) (i : Nat) (a : Addr) (Q : D → Env → Prop) (Qx : QX) : List Arg → Env → Prop := fun as ρ1 => resA (.lend (i, []) a :: as) ρ1 fun ds ρ2 => dsp ds (fun d ds' => giveA (.lend (i, []) a :: as) ds' ρ2 fun ρ3 => Q d ρ3) (fun x ds' => giveA (.lend (i, []) a :: as) ds' ρ2 fun ρ3 => Qx x ρ3)
theorem lendq {dsp : DSp} {vs : List D} {ρ : Env} {Q : D → Env → Prop} {Qx : QX} {a : Addr} {d : D} {i : Nat} (hi : ρ[i]? = some (some d)) (hp : Pool a d) (h : dsp (d :: vs) (fun r ds' => PoolQ i a vs ρ (Q r) ds') (fun x ds' => PoolQ i a vs ρ (Qx x) ds')) : LendQ dsp i a Q Qx (vs.map .val) ρ := by
  have e1 : ∀ e, setP ρ (i, []) e = ρ.set i (some e) := fun e => by unfold setP; simp only [hi]; rfl
  have e2 : getP ρ (i, []) = some d := by unfold getP; simp only [hi]; rfl
  show (match getP ρ (i, []) with
    | some d => _
    | none => False)
  rw [e2]
  refine ⟨pool_addr hp, ?_⟩
  rw [resA_vals, e1]
  exact h
theorem c_poolE {dsp : DSp} {ws : Aw} {ρ : Env} {Q : D → Env → Prop} {Qx : QX} {a : Addr} {d : D} {i : Nat} (hi : ρ[i]? = some (some d)) (hp : Pool a d) (h : ws ρ (LendQ dsp i a Q Qx) Qx) : wCall dsp (aLend (lVar i) ws) ρ Q Qx := by
  refine xcall ?_
  show (match ρ[i]? with
    | some (some d) => _
    | _ => False)
  rw [hi]
  exact ⟨a, pool_addr hp, h⟩
theorem atI_neg1 {l : List D} {x : D} (h : l[l.length - 1]? = some x) (hl : 0 < l.length) : atI l (-1) = some x := by
  have e : ixN l.length (-1) = some (l.length - 1) := by
    unfold ixN
    rw [if_neg (by omega)]
    simp
    omega
  unfold atI
  rw [e]; exact h
theorem xlistE {we : Ew} {ρ : Env} {Q : D → Env → Prop} {Qx : QX} (h : we ρ (fun d ρ' => match seqD d with
  | some l => owns l = [] ∧ ∀ p, Q (.lst (some p) l) ρ'
  | none => False) Qx) : eListE we ρ Q Qx := h
theorem xcatT {wa wb : Ew} {ρ : Env} {Q : D → Env → Prop} {Qx : QX} (h : wa ρ (fun x ρ1 => match x with
  | .tup l => owns l = [] ∧ wb ρ1 (fun y ρ2 => match y with
    | .tup r => l.length + r.length ≤ sizeLine ∧ Q (.tup (l ++ r)) ρ2
    | _ => False) Qx
  | _ => False) Qx) : eCatT wa wb ρ Q Qx := h
theorem xcatP {wa wb : Pw} {ρ : Env} {Q : D → Env → Prop} {Qx : QX} {l r : List D} (h1 : PV wa ρ (.tup l)) (h2 : PV wb ρ (.tup r)) (n1 : owns l = []) (n2 : owns r = []) (hs : l.length + r.length ≤ sizeLine) (q : Q (.tup (l ++ r)) ρ) : eCatT (ePure wa) (ePure wb) ρ Q Qx :=
  xcatT (e_pure h1 n1 ⟨n1, e_pure h2 n2 ⟨hs, q⟩⟩)
theorem e_listP {wp : Pw} {ρ : Env} {Q : D → Env → Prop} {Qx : QX} {d : D} {l : List D} (h : PV wp ρ d) (hd : seqD d = some l) (n : owns l = []) (q : ∀ p, Q (.lst (some p) l) ρ) : eListP wp ρ Q Qx := h _ (by
  show (match seqD d with | some l => _ | none => False)
  rw [hd]; exact ⟨n, q⟩)
theorem e_tupP {wp : Pw} {ρ : Env} {Q : D → Env → Prop} {Qx : QX} {d : D} {l : List D} (h : PV wp ρ d) (hd : seqD d = some l) (n : owns l = []) (q : Q (.tup l) ρ) : eTupP wp ρ Q Qx := h _ (by
  show (match seqD d with | some l => _ | none => False)
  rw [hd]; exact ⟨n, q⟩)
theorem xstar {wp : Pw} {wr : Aw} {ρ : Env} {QA : List Arg → Env → Prop} {Qx : QX} {d : D} {l : List D} (h : PV wp ρ d) (hd : seqD d = some l) (n : owns l = []) (q : wr ρ (fun as ρ2 => QA (l.map Arg.val ++ as) ρ2) Qx) : aStar wp wr ρ QA Qx := h _ (by
  show (match seqD d with | some l => _ | none => False)
  rw [hd]; exact ⟨n, q⟩)
theorem valsOf_app : ∀ (l : List D) (as : List Arg), valsOf (l.map Arg.val ++ as) = (valsOf as).map (l ++ ·)
  | [], as => by show valsOf as = _; cases valsOf as <;> rfl
  | d :: l, as => by
    show (valsOf (l.map Arg.val ++ as)).map (d :: ·) = _
    rw [valsOf_app l as]; cases valsOf as <;> rfl
/-- a sequence's words -/
theorem seq3 {d : D} {l : List D} (h : isSeq d l) : d = .tup l ∨ d = .lst none l ∨ d = .lsk l := h.elim .inl fun h => .inr (.inl h)
theorem mr (f : Int × Int → D) (l : List (Int × Int)) : (l.map f).reverse = l.reverse.map f := by rw [List.map_reverse]
/-- what a pure tuple's parts are -/
theorem fin1 {d : D} {o : Option D} {ρ : Env} {R : List D → Prop} (h1 : own d = []) (r : R [d]) : fin [d] (o :: ρ) R := .inl ⟨h1, r⟩
theorem fin3 {d e f : D} {o1 o2 o3 : Option D} {ρ : Env} {R : List D → Prop} (h1 : own d = []) (h2 : own e = []) (h3 : own f = []) (r : R [d, e, f]) : fin [d, e, f] (o1 :: o2 :: o3 :: ρ) R := .inl ⟨h1, .inl ⟨h2, .inl ⟨h3, r⟩⟩⟩
theorem fin4 {d e f g : D} {o1 o2 o3 o4 : Option D} {ρ : Env} {R : List D → Prop} (h1 : own d = []) (h2 : own e = []) (h3 : own f = []) (h4 : own g = []) (r : R [d, e, f, g]) : fin [d, e, f, g] (o1 :: o2 :: o3 :: o4 :: ρ) R := .inl ⟨h1, .inl ⟨h2, .inl ⟨h3, .inl ⟨h4, r⟩⟩⟩⟩
end DL
set_option Elab.async false
set_option linter.all false
set_option maxRecDepth 100000
set_option maxHeartbeats 4000000
namespace DL
open PySem PySem.Spec PyProof.Rows L2
def W_split_at (sp_normalize : DSp) : Sw :=
    (sSeq (sSet 2 (eLst aNil))
    (sSeq (sSet 3 (eLst aNil))
    (sSeq (sSet 4 (ePure (pVar 1)))
    (sSeq (sFor (iSq (ePure (pVar 0))) (gTp (gsCons (gNm 5) (gsCons (gNm 6) gsNil)) 2) (sSeq (sSet 7 (eCallB rdMin2 (aVal (ePure (pVar 4)) (aVal (ePure (pVar 6)) aNil))))
    (sSeq (sIf (tPure rdGt (pVar 7) (pC (.int 0))) (sDrop (eApp (lVar 2) (eTup (aVal (ePure (pVar 5)) (aVal (ePure (pVar 7)) aNil))))) sNext)
    (sSeq (sIf (tPure rdLt (pVar 7) (pVar 6)) (sDrop (eApp (lVar 3) (eTup (aVal (ePure (pVar 5)) (aVal (ePure (pOp rdSub (pVar 6) (pVar 7))) aNil))))) sNext)
    (sAug 4 (fun i j => i - j) (ePure (pVar 7)))))))
    (sRet (eTup (aVal (wCall sp_normalize (aVal (eFrz 2) aNil)) (aVal (wCall sp_normalize (aVal (eFrz 3) aNil)) aNil))))))))
def W_push_b (sp_split_at : DSp) (sp_units : DSp) : Sw :=
    (sSeq (sAsg (wCall sp_split_at (aVal (eKeep (eLst (aStar (pVar 0) (aStar (pVar 1) aNil)))) (aVal (wCall sp_units (aVal (ePure (pVar 1)) aNil)) aNil))) (gTp (gsCons (gNm 2) (gsCons (gNm 3) gsNil)) 2))
    (sRet (eTup (aVal (ePure (pVar 3)) (aVal (ePure (pVar 2)) aNil)))))
def W_push_a (sp_push_b : DSp) : Sw :=
    (sSeq (sAsg (wCall sp_push_b (aVal (eKeep (eRevS (pVar 0))) (aVal (ePure (pVar 1)) aNil))) (gTp (gsCons (gNm 2) (gsCons (gNm 3) gsNil)) 2))
    (sRet (eTup (aVal (eRevT (pVar 2)) (aVal (ePure (pVar 3)) aNil)))))
def W_law_sequence (sp_law_take : DSp) : Sw :=
    (sSeq (sSet 3 (eLst aNil))
    (sSeq (sFor (iRg1 (aVal (eOp rdAdd (ePure (pVar 1)) (wCall sp_law_take (aLend (lVar 0) (aVal (ePure (pVar 2)) aNil)))) aNil)) (gNm 4) (sDrop (eApp (lVar 3) (eTup (aVal (wCall sp_law_take (aLend (lVar 0) (aVal (eKeep (eIx (eTup (aVal (ePure (pC (.int 2))) (aVal (ePure (pC (.int 3))) (aVal (ePure (pC (.int 8))) aNil)))) (wCall sp_law_take (aLend (lVar 0) (aVal (ePure (pC (.int 3))) aNil))))) aNil))) (aVal (eOp rdAdd (ePure (pC (.int 1))) (wCall sp_law_take (aLend (lVar 0) (aVal (ePure (pC (.int 6))) aNil)))) aNil))))))
    (sRet (eTupP (pVar 3)))))
def W_law_units  : Sw :=
    (sSeq (sSet 1 (eLst aNil))
    (sSeq (sFor (iSq (ePure (pVar 0))) (gNm 2) (sSet 1 (eCat (eFrz 1) (eRep (eLst (aVal (ePure (pIx (pVar 2) (pC (.int 0)))) aNil)) (ePure (pIx (pVar 2) (pC (.int 1))))))))
    (sRet (eMov 1))))
def W_law_batches  : Sw :=
    (sSeq (sSet 1 (eLst aNil))
    (sSeq (sFor (iSq (ePure (pVar 0))) (gNm 2) (sIf (tAndD (tTruP (pVar 1)) (tPure rdEq (pIx (pIx (pVar 1) (pNeg (pC (.int 1)))) (pC (.int 0))) (pVar 2))) (sSetIx (eTup (aVal (ePure (pVar 2)) (aVal (ePure (pOp rdAdd (pIx (pIx (pVar 1) (pNeg (pC (.int 1)))) (pC (.int 1))) (pC (.int 1)))) aNil))) (lVar 1) (pNeg (pC (.int 1)))) (sDrop (eApp (lVar 1) (eTup (aVal (ePure (pVar 2)) (aVal (ePure (pC (.int 1))) aNil)))))))
    (sRet (eTupP (pVar 1)))))
def W_law_pushed  : Sw :=
    (sSeq (sSet 3 (eListP (pVar 0)))
    (sSeq (sSet 4 (eLst aNil))
    (sSeq (sFor (iSq (ePure (pVar 1))) (gNm 5) (sIf (tPure rdEq (pVar 2) (pC (.str "A"))) (sSeq (sDrop (eIns (lVar 3) (pC (.int 0)) (pVar 5)))
    (sDrop (eApp (lVar 4) (ePop (lVar 3))))) (sSeq (sDrop (eApp (lVar 3) (ePure (pVar 5))))
    (sDrop (eApp (lVar 4) (ePopAt (lVar 3) (pC (.int 0))))))))
    (sRet (eTup (aVal (eFrz 3) (aVal (eFrz 4) aNil)))))))
def W_law_great (sp_law_sequence : DSp) (sp_law_take : DSp) : Sw :=
    (sSeq (sSet 2 (eLst aNil))
    (sSeq (sFor (iTp (wCall sp_law_sequence (aLend (lVar 0) (aVal (ePure (pVar 1)) (aVal (ePure (pC (.int 6))) aNil))))) (gNm 3) (sDrop (eApp (lVar 2) (eTup (aVal (ePure (pIx (pVar 3) (pC (.int 0)))) (aVal (eOp rdAdd (eOp rdAdd (ePure (pC (.int 1))) (eOp rdMul (wCall sp_law_take (aLend (lVar 0) (aVal (ePure (pOp rdPow (pC (.int 10)) (pC (.int 6)))) aNil))) (ePure (pOp rdPow (pC (.int 10)) (pC (.int 6)))))) (wCall sp_law_take (aLend (lVar 0) (aVal (ePure (pOp rdPow (pC (.int 10)) (pC (.int 6)))) aNil)))) aNil))))))
    (sRet (eMov 2))))
theorem own_pr (l : List (Int × Int)) : own (.tup (l.map pr)) = [] := owns_pr l
theorem szc {n : Nat} (h : Nat.ble n 100 = true := by rfl) : n ≤ sizeLine := size_le (by have := Nat.le_of_ble_eq_true h; omega)
theorem asg2 {i j : Nat} {x y : D} {ρ : Env} {R : Env → Prop} (h : R ((ρ.set i (some x)).set j (some y))) : gTp (gsCons (gNm i) (gsCons (gNm j) gsNil)) 2 (.tup [x, y]) ρ R := ⟨rfl, h⟩
def sp_units : DSp := fun ds Q _ => ∃ d l, ds = [d] ∧ isSeq d (l.map pr) ∧ l.length ≤ 10000 ∧ Q (.int (tots l)) [d]
theorem word_units : ∀ ds Qd Qx, sp_units ds Qd Qx → W_units (Ends' ds Qd Qx) (entry ["sequence", "batch"] ds) := by
  rintro ds Qd Qx ⟨d, l, rfl, hd, hl, h⟩
  have od := seq_own hd (owns_pr l)
  exact xret (e_sumlc (enc := pr) (g := fun x => x.2) (fun R r => e_pure (pv_var rfl) od r) (seq3 hd) (by omega) (fun x hx R r => e_pure (pv_ix (x := pr x) (pv_var rfl) pv_c rfl rfl) rfl (r _ rfl)) (.inl ⟨od, h⟩))
/-! ### split_at -/
def leftN : Int → List (Int × Int) → Int
  | n, [] => n
  | n, x :: l => leftN (n - min n x.2) l
theorem left_app : ∀ (a : List (Int × Int)) (n : Int) (x), leftN n (a ++ [x]) = leftN n a - min (leftN n a) x.2
  | [], n, x => rfl
  | y :: a, n, x => left_app a _ x
theorem cutA_app : ∀ (a : List (Int × Int)) (n : Int) (x), cutA n (a ++ [x]) = cutA n a ++ (if 0 < min (leftN n a) x.2 then [(x.1, min (leftN n a) x.2)] else [])
  | [], n, x => by show (if 0 < min n x.2 then [(x.1, min n x.2)] else []) ++ [] = [] ++ _; rw [List.append_nil]; rfl
  | y :: a, n, x => by show _ ++ cutA _ (a ++ [x]) = _; rw [cutA_app a, ← List.append_assoc]; rfl
theorem cutB_app : ∀ (a : List (Int × Int)) (n : Int) (x), cutB n (a ++ [x]) = cutB n a ++ (if min (leftN n a) x.2 < x.2 then [(x.1, x.2 - min (leftN n a) x.2)] else [])
  | [], n, x => by show (if min n x.2 < x.2 then [(x.1, x.2 - min n x.2)] else []) ++ [] = [] ++ _; rw [List.append_nil]; rfl
  | y :: a, n, x => by show _ ++ cutB _ (a ++ [x]) = _; rw [cutB_app a, ← List.append_assoc]; rfl
theorem cut_len : ∀ (l : List (Int × Int)) (n : Int), (cutA n l).length ≤ l.length ∧ (cutB n l).length ≤ l.length
  | [], n => ⟨Nat.le_refl _, Nat.le_refl _⟩
  | x :: l, n => by
    have i := cut_len l (n - min n x.2)
    unfold cutA cutB
    rw [List.length_append, List.length_append, List.length_cons]
    constructor
    · split <;> simp <;> omega
    · split <;> simp <;> omega
def sp_split : DSp := fun ds Q _ => ∃ d l n, ds = [d, .int n] ∧ isSeq d (l.map pr) ∧ l.length ≤ 10000 ∧ Q (.tup [.tup ((norm (cutA n l)).map pr), .tup ((norm (cutB n l)).map pr)]) [d, .int n]
theorem word_split_at : ∀ ds Qd Qx, sp_split ds Qd Qx → W_split_at sp_norm (Ends' ds Qd Qx) (entry ["sequence", "amount", "ahead", "behind", "left", "product", "many", "taken"] ds) := by
  rintro ds Qd Qx ⟨d, l, n, rfl, hd, hl, h⟩
  have od := seq_own hd (owns_pr l)
  refine xseq ⟨Nat.zero_le _, fun a => xseq ⟨Nat.zero_le _, fun b => xseq (s_pure (d := .int n) (pv_var rfl) rfl (xseq ?_))⟩⟩
  refine for_seq (fun R r => e_pure (pv_var rfl) od r) (seq3 hd) (fun i ρ => ∃ x5 x6 x7, ρ = [some d, some (.int n), some (.lst (some a) ((cutA n (l.take i)).map pr)), some (.lst (some b) ((cutB n (l.take i)).map pr)), some (.int (leftN n (l.take i))), x5, x6, x7]) ⟨none, none, none, rfl⟩ ?_ ?_
  · rintro i e ρ2 he ⟨x5, x6, x7, rfl⟩
    obtain ⟨x, hx, rfl⟩ := getq_map he
    have hi := lt_of_get hx
    have et : l.take (i + 1) = l.take i ++ [x] := by rw [List.take_add_one, hx]; rfl
    have c := cut_len (l.take i) n
    rw [List.length_take] at c
    have eA := cutA_app (l.take i) n x
    have eB := cutB_app (l.take i) n x
    have eL := left_app (l.take i) n x
    rw [← et] at eA eB eL
    generalize leftN n (l.take i) = left at eA eB eL
    generalize cutA n (l.take i) = A at eA c
    generalize cutB n (l.take i) = B at eB c
    refine ⟨rfl, ?_⟩
    show sSeq _ _ _ [some d, some (.int n), some (.lst (some a) (A.map pr)), some (.lst (some b) (B.map pr)), some (.int left), some (.int x.1), some (.int x.2), x7]
    refine xseq (xset (xcallB (a_pure (d := .int left) (pv_var rfl) rfl (a_pure (d := .int x.2) (pv_var rfl) rfl ⟨rfl, ?_⟩))))
    show sSeq _ _ _ [some d, some (.int n), some (.lst (some a) (A.map pr)), some (.lst (some b) (B.map pr)), some (.int left), some (.int x.1), some (.int x.2), some (.int (if x.2 < left then x.2 else left))]
    have em : (if x.2 < left then x.2 else left) = min left x.2 := by split <;> omega
    rw [em]
    have oA := owns_pr A
    have oB := owns_pr B
    generalize min left x.2 = t at eA eB eL
    refine xseq (if_int (pv_var rfl) pv_c (fun hs => ?_) (fun hs => ?_))
    · have hs := of_decide_eq_true hs
      rw [if_pos (show (0 : Int) < t from hs)] at eA
      refine xdrop (xapp rfl (xtup (a_pure (d := .int x.1) (pv_var rfl) rfl (a_pure (d := .int t) (pv_var rfl) rfl ⟨rfl, szc, rfl, size_lt (by rw [List.length_map]; omega), ?_⟩))))
      show sSeq _ _ _ [some d, some (.int n), some (.lst (some a) (A.map pr ++ [pr (x.1, t)])), some (.lst (some b) (B.map pr)), some (.int left), some (.int x.1), some (.int x.2), some (.int t)]
      rw [show A.map pr ++ [pr (x.1, t)] = (A ++ [(x.1, t)]).map pr by rw [List.map_append]; rfl, ← eA]
      refine xseq (if_int (pv_var rfl) (pv_var rfl) (fun hs => ?_) (fun hs => ?_))
      · have hs := of_decide_eq_true hs
        rw [if_pos (show t < x.2 from hs)] at eB
        refine xdrop (xapp rfl (xtup (a_pure (d := .int x.1) (pv_var rfl) rfl (a_pure (d := .int (x.2 - t)) (pv_I0 (pv_var rfl) (pv_var rfl)) rfl ⟨rfl, szc, rfl, size_lt (by rw [List.length_map]; omega), ?_⟩))))
        dsimp only
        refine xaug (x := left) (y := t) rfl (pv_var rfl) ?_
        refine ⟨some (.int x.1), some (.int x.2), some (.int t), ?_⟩
        rw [eB, eL, List.map_append]; rfl
      · have hs := of_decide_eq_false hs
        rw [if_neg (show ¬ t < x.2 from hs), List.append_nil] at eB
        refine xnext ?_
        dsimp only
        refine xaug (x := left) (y := t) rfl (pv_var rfl) ?_
        refine ⟨some (.int x.1), some (.int x.2), some (.int t), ?_⟩
        rw [eB, eL]; rfl
    · have hs := of_decide_eq_false hs
      rw [if_neg (show ¬ (0 : Int) < t from hs), List.append_nil] at eA
      refine xnext ?_
      show sSeq _ _ _ [some d, some (.int n), some (.lst (some a) (A.map pr)), some (.lst (some b) (B.map pr)), some (.int left), some (.int x.1), some (.int x.2), some (.int t)]
      rw [← eA]
      refine xseq (if_int (pv_var rfl) (pv_var rfl) (fun hs => ?_) (fun hs => ?_))
      · have hs := of_decide_eq_true hs
        rw [if_pos (show t < x.2 from hs)] at eB
        refine xdrop (xapp rfl (xtup (a_pure (d := .int x.1) (pv_var rfl) rfl (a_pure (d := .int (x.2 - t)) (pv_I0 (pv_var rfl) (pv_var rfl)) rfl ⟨rfl, szc, rfl, size_lt (by rw [List.length_map]; omega), ?_⟩))))
        dsimp only
        refine xaug (x := left) (y := t) rfl (pv_var rfl) ?_
        refine ⟨some (.int x.1), some (.int x.2), some (.int t), ?_⟩
        rw [eB, eL, List.map_append]; rfl
      · have hs := of_decide_eq_false hs
        rw [if_neg (show ¬ t < x.2 from hs), List.append_nil] at eB
        refine xnext ?_
        dsimp only
        refine xaug (x := left) (y := t) rfl (pv_var rfl) ?_
        refine ⟨some (.int x.1), some (.int x.2), some (.int t), ?_⟩
        rw [eB, eL]; rfl
  · rintro ρ2 ⟨x5, x6, x7, rfl⟩
    rw [List.length_map, List.take_length]
    have c := cut_len l n
    dsimp only
    refine xret (xtup (xval (xcall (xval (x_frz rfl (owns_pr _) ?_)))))
    refine ⟨.lst none ((cutA n l).map pr), cutA n l, rfl, .inr rfl, by omega, ?_⟩
    dsimp only [giveA]
    refine xval (xcall (xval (x_frz rfl (owns_pr _) ?_)))
    refine ⟨.lst none ((cutB n l).map pr), cutB n l, rfl, .inr rfl, by omega, ?_⟩
    dsimp only [giveA]
    refine ⟨?_, szc, fin2 od rfl h⟩
    show owns _ ++ (owns _ ++ []) = []
    rw [owns_pr, owns_pr]; rfl
/-! ### pushes -/
def sq (u : List Int) : D := .tup ((grp u).map pr)
theorem own_sq (u) : own (sq u) = [] := owns_pr _
def sp_pb : DSp := fun ds Q _ => ∃ d e l m, ds = [d, e] ∧ isSeq d (l.map pr) ∧ isSeq e (m.map pr) ∧ PosL l ∧ PosL m ∧ l.length ≤ 4000 ∧ m.length ≤ 4000 ∧ Q (.tup [sq ((flat l ++ flat m).drop (flat m).length), sq ((flat l ++ flat m).take (flat m).length)]) [d, e]
theorem word_push_b : ∀ ds Qd Qx, sp_pb ds Qd Qx → W_push_b sp_split sp_units (Ends' ds Qd Qx) (entry ["pipe", "load", "out", "rest"] ds) := by
  rintro ds Qd Qx ⟨d, e, l, m, rfl, hd, he, pl, pm, hl, hm, h⟩
  have od := seq_own hd (owns_pr l)
  have oe := seq_own he (owns_pr m)
  have ee : valsOf ((l.map pr).map Arg.val ++ ((m.map pr).map Arg.val ++ [])) = some ((l ++ m).map pr) := by
    rw [valsOf_app, valsOf_app, List.map_append]
    show some (l.map pr ++ (m.map pr ++ [])) = _
    rw [List.append_nil]
  refine xseq (xasg (xcall (xval (xkeep (xlst (xstar (pv_var rfl) (seq_seq hd) (owns_pr l) (xstar (pv_var rfl) (seq_seq he) (owns_pr m) (xnil ?_))))))))
  rw [ee]
  refine ⟨size_le (by rw [List.length_map, List.length_append]; omega), fun p => ⟨owns_pr _, ?_⟩⟩
  refine xval (xcall (a_pure (pv_var rfl) oe ?_))
  refine ⟨e, m, rfl, he, by omega, ?_⟩
  dsimp only [giveA]
  refine ⟨.lst none ((l ++ m).map pr), l ++ m, tots m, rfl, .inr rfl, by rw [List.length_append]; omega, ?_⟩
  dsimp only [giveA]
  have hn : (0 : Int) ≤ tots m := by rw [← flat_len pm]; omega
  obtain ⟨c1, c2, c3, c4⟩ := cut_flat (l ++ m) (tots m) (pl.app pm) hn
  have en : (tots m).toNat = (flat m).length := by rw [← flat_len pm]; omega
  rw [en, flat_append] at c3 c4
  rw [norm_grp c1, norm_grp c2, c3, c4]
  refine asg2 ?_
  refine xret (xtup (a_pure (d := sq _) (pv_var rfl) (own_sq _) (a_pure (d := sq _) (pv_var rfl) (own_sq _) ⟨?_, szc, fin2 od oe h⟩)))
  show own (sq _) ++ (own (sq _) ++ []) = []
  rw [own_sq, own_sq]; rfl
def sp_pa : DSp := fun ds Q _ => ∃ d e l m, ds = [d, e] ∧ isSeq d (l.map pr) ∧ isSeq e (m.map pr) ∧ PosL l ∧ PosL m ∧ l.length ≤ 4000 ∧ m.length ≤ 4000 ∧ Q (.tup [sq (((flat l).reverse ++ flat m).drop (flat m).length).reverse, sq (((flat l).reverse ++ flat m).take (flat m).length)]) [d, e]
theorem word_push_a : ∀ ds Qd Qx, sp_pa ds Qd Qx → W_push_a sp_pb (Ends' ds Qd Qx) (entry ["pipe", "load", "rest", "out"] ds) := by
  rintro ds Qd Qx ⟨d, e, l, m, rfl, hd, he, pl, pm, hl, hm, h⟩
  have od := seq_own hd (owns_pr l)
  have oe := seq_own he (owns_pr m)
  refine xseq (xasg (xcall (xval (xkeep (revS (pv_var rfl) hd (owns_pr l) fun d' hd' hk => ⟨?_, ?_⟩)))))
  · rcases hk with rfl | ⟨p, rfl⟩ <;> exact owns_rev (owns_pr l)
  have hs : isSeq (fr1 d') (l.reverse.map pr) := by
    rw [List.map_reverse]
    rcases hk with rfl | ⟨p, rfl⟩
    · exact .inl rfl
    · exact .inr rfl
  refine a_pure (pv_var rfl) oe ⟨fr1 d', e, l.reverse, m, rfl, hs, he, pl.rev, pm, by rw [List.length_reverse]; omega, hm, ?_⟩
  dsimp only [giveA]
  rw [flat_reverse]
  refine asg2 ?_
  refine xret (xtup (xval ((pv_var (d := sq _) rfl) _ ⟨owns_pr _, a_pure (d := sq _) (pv_var rfl) (own_sq _) ⟨?_, szc, fin2 od oe ?_⟩⟩)))
  · show owns _ ++ (own (sq _) ++ []) = []
    rw [own_sq, owns_rev (owns_pr _)]; rfl
  · rw [mr, ← grp_rev]; exact h
end DL
set_option Elab.async false
set_option linter.all false
set_option maxRecDepth 100000
set_option maxHeartbeats 4000000
namespace DL
open PySem PySem.Spec PyProof.Rows L2
/-! ### what the pipeline's laws draw and try -/
theorem ix3 {u v w k : Int} {Q : D → Prop} (k0 : 0 ≤ k) (k1 : k < 3) (q : Q (.int (pick u v w k))) : ixD (.tup [.int u, .int v, .int w]) (.int k) Q := by
  have hk : k = 0 ∨ k = 1 ∨ k = 2 := by omega
  rcases hk with rfl | rfl | rfl
  · exact ix_tup rfl q
  · exact ix_tup rfl q
  · exact ix_tup rfl q
def SeqOk (l : List (Int × Int)) : Prop := ∀ x ∈ l, 0 ≤ x.1 ∧ x.1 < 8 ∧ 1 ≤ x.2 ∧ x.2 ≤ 6
theorem SeqOk.pos {l} (h : SeqOk l) : PosL l := fun x hx => by have := h x hx; omega
theorem SeqOk.app {l} {x : Int × Int} (h : SeqOk l) (hx : 0 ≤ x.1 ∧ x.1 < 8 ∧ 1 ≤ x.2 ∧ x.2 ≤ 6) : SeqOk (l ++ [x]) := fun y hy => (List.mem_append.mp hy).elim (h y) (fun z => by rw [List.mem_singleton.mp z]; exact hx)
def sp_lseq : DSp := fun ds Q _ => ∃ a d least many, ds = [d, .int least, .int many] ∧ Pool a d ∧ 0 ≤ least ∧ least ≤ 100 ∧ 0 < many ∧ many ≤ 1000 ∧ ∀ (l : List (Int × Int)) d', least ≤ l.length → l.length < least + many → SeqOk l → Pool a d' → Q (.tup (l.map pr)) [d', .int least, .int many]
theorem fin_p3 {a : Addr} {d d' e f : D} {o1 o2 : Option D} {ρ : Env} {R : List D → Prop} (h : Pool a d) (h' : Pool a d') (he : own e = []) (hf : own f = []) (r : R [d', e, f]) : fin [d, e, f] (some d' :: o1 :: o2 :: ρ) R := .inr ⟨a, d', pool_addr h, rfl, pool_addr h', .inl ⟨he, .inl ⟨hf, r⟩⟩⟩
theorem word_lseq : ∀ ds Qd Qx, sp_lseq ds Qd Qx → W_law_sequence sp_take (Ends' ds Qd Qx) (entry ["pool", "least", "many", "found", "k"] ds) := by
  rintro ds Qd Qx ⟨a, d, least, many, rfl, hp, l0, l1, m0, m1, h⟩
  refine xseq ⟨Nat.zero_le _, fun p => xseq ?_⟩
  refine xfor (xrg1 (xval (xop (e_pure (d := .int least) (pv_var rfl) rfl ⟨rfl, c_take (many := many) rfl hp (pv_var rfl) m0 (by omega) fun n d1 n0 n1 hp1 => ?_⟩))))
  refine ⟨rg_of (by omega) (by omega), fun i ρ => ∃ d l t, Pool a d ∧ l.length = i ∧ SeqOk l ∧ ρ = [some d, some (.int least), some (.int many), some (.lst (some p) (l.map pr)), t], ⟨d1, [], none, hp1, rfl, (fun _ h => nomatch h), rfl⟩, ?_, ?_⟩
  · rintro i e ρ2 he ⟨d2, l, t, hp2, hl, hok, rfl⟩
    obtain ⟨hi, rfl⟩ := iseq_get.mp he
    have hi : i < (least + n).toNat := hi
    refine xdrop (xapp rfl (xtup (xval (c_takeE rfl hp2 (xkeep (xix (xtup (a_pure pv_c rfl (a_pure pv_c rfl (a_pure pv_c rfl ⟨rfl, szc, rfl, c_take rfl hp2 pv_c (by decide) (by decide) fun k d3 k0 k1 hp3 => ix3 k0 k1 ⟨rfl, rfl, ?_⟩⟩)))))))))) 
    have wb : 2 ≤ pick 2 3 8 k ∧ pick 2 3 8 k ≤ 8 := pick_b (P := fun x => 2 ≤ x ∧ x ≤ 8) (by decide) (by decide) (by decide)
    generalize pick 2 3 8 k = wide at wb
    refine tkq (many := wide) rfl hp3 (by omega) (by omega) fun x d4 x0 x1 hp4 => ?_
    refine xval (xop (e_pure pv_c rfl ⟨rfl, c_take rfl hp4 pv_c (by decide) (by decide) fun y d5 y0 y1 hp5 => ?_⟩))
    refine ⟨rfl, szc, rfl, size_lt (by rw [List.length_map]; omega), ?_⟩
    refine ⟨d5, l ++ [(x, 1 + y)], some (.int (0 + (i : Int))), hp5, by simp [hl], hok.app (by show 0 ≤ x ∧ x < 8 ∧ 1 ≤ 1 + y ∧ 1 + y ≤ 6; omega), ?_⟩
    rw [List.map_append]; rfl
  · rintro ρ2 ⟨d2, l, t, hp2, hl, hok, rfl⟩
    rw [iseq_len] at hl
    dsimp only
    refine xret (e_tupP (d := .lst (some p) (l.map pr)) (pv_var rfl) rfl (owns_pr l) ?_)
    exact fin_p3 hp hp2 rfl rfl (h l d2 (by omega) (by omega) hok hp2)
def sp_lunits : DSp := fun ds Q _ => ∃ d l, ds = [d] ∧ isSeq d (l.map pr) ∧ PosL l ∧ tots l ≤ 90000 ∧ ∀ p, Q (.lst (some p) ((flat l).map .int)) [d]
theorem tots_take {l : List (Int × Int)} (h : PosL l) : ∀ i, tots (l.take i) ≤ tots l := fun i => by
  have e := List.take_append_drop i l
  have hp : PosL (l.take i ++ l.drop i) := by rw [e]; exact h
  have h1 := flat_len hp.left
  have h2 := flat_len hp.right
  have h3 := flat_len h
  have h4 : (flat l).length = (flat (l.take i)).length + (flat (l.drop i)).length := by rw [← List.length_append, ← flat_append, e]
  omega
theorem xrep {wa wb : Ew} {ρ : Env} {Q : D → Env → Prop} {Qx : QX} (h : wa ρ (fun x ρ1 => match x with
  | .lst _ l => owns l = [] ∧ wb ρ1 (fun y ρ2 => match y with
    | .int k => -(2 ^ 63) ≤ k ∧ k < 2 ^ 63 ∧ l.length * k.toNat ≤ sizeLine ∧ ∀ p, Q (.lst (some p) (List.replicate k.toNat l).flatten) ρ2
    | _ => False) Qx
  | _ => False) Qx) : eRep wa wb ρ Q Qx := h
theorem flatten_one {α} (x : α) : ∀ n, (List.replicate n [x]).flatten = List.replicate n x
  | 0 => rfl
  | n + 1 => by rw [List.replicate_succ, List.flatten_cons, flatten_one x n]; rfl
theorem word_lunits : ∀ ds Qd Qx, sp_lunits ds Qd Qx → W_law_units (Ends' ds Qd Qx) (entry ["sequence", "found", "batch"] ds) := by
  rintro ds Qd Qx ⟨d, l, rfl, hd, hp, hb, h⟩
  have od := seq_own hd (owns_pr l)
  refine xseq ⟨Nat.zero_le _, fun a => xseq ?_⟩
  refine for_seq (fun R r => e_pure (pv_var rfl) od r) (seq3 hd) (fun i ρ => ∃ p t, ρ = [some d, some (.lst (some p) ((flat (l.take i)).map .int)), t]) ⟨a, none, rfl⟩ ?_ ?_
  · rintro i e ρ2 he ⟨p, t, rfl⟩
    obtain ⟨x, hx, rfl⟩ := getq_map he
    have hx0 := hp x (List.mem_of_getElem? hx)
    have et : l.take (i + 1) = l.take i ++ [x] := by rw [List.take_add_one, hx]; rfl
    have ef : flat (l.take (i + 1)) = flat (l.take i) ++ List.replicate x.2.toNat x.1 := by rw [et, flat_append, flat_one]
    have hb2 := tots_take hp (i + 1)
    have hp2 : PosL (l.take (i + 1)) := fun y hy => hp y (List.mem_of_mem_take hy)
    have fl := flat_len hp2
    rw [ef, List.length_append, List.length_replicate] at fl
    refine xset (xcat (x_frz rfl (own_ints _) ⟨own_ints _, xrep (xlst (a_pure (d := .int x.1) (pv_ix (x := pr x) (pv_var rfl) pv_c rfl rfl) rfl ⟨szc, fun q => ⟨rfl, ?_⟩⟩))⟩))
    refine e_pure (d := .int x.2) (pv_ix (x := pr x) (pv_var rfl) pv_c rfl rfl) rfl ⟨by omega, by omega, ?_, fun q2 => ?_⟩
    · refine size_le ?_
      show 1 * x.2.toNat ≤ 100000
      omega
    rw [flatten_one]
    refine ⟨owns_nil.mpr fun d hd => by rw [List.eq_of_mem_replicate hd]; rfl, ?_, fun q3 => ?_⟩
    · refine size_le ?_
      rw [List.length_map, List.length_replicate]; omega
    · refine ⟨q3, some (pr x), ?_⟩
      rw [ef, List.map_append, List.map_replicate]; rfl
  · rintro ρ2 ⟨p, t, rfl⟩
    rw [List.length_map, List.take_length]
    exact .inl ⟨od, h p⟩
def sp_lbat : DSp := fun ds Q _ => ∃ d u, ds = [d] ∧ isSeq d (u.map .int) ∧ u.length ≤ 90000 ∧ Q (sq u) [d]
theorem grp_take {u : List Int} {i : Nat} {x : Int} (h : u[i]? = some x) : grp (u.take (i + 1)) = nstep (grp (u.take i)) (x, 1) := by
  unfold grp norm
  rw [List.take_add_one, h, List.map_append, List.foldl_append]; rfl
theorem word_lbat : ∀ ds Qd Qx, sp_lbat ds Qd Qx → W_law_batches (Ends' ds Qd Qx) (entry ["units_v", "found", "product"] ds) := by
  rintro ds Qd Qx ⟨d, u, rfl, hd, hl, h⟩
  have od := seq_own hd (own_ints u)
  refine xseq ⟨Nat.zero_le _, fun a => xseq ?_⟩
  refine for_seq (fun R r => e_pure (pv_var rfl) od r) (seq3 hd) (fun i ρ => ∃ x2, ρ = [some d, some (.lst (some a) ((grp (u.take i)).map pr)), x2]) ⟨_, rfl⟩ ?_ ?_
  · rintro i e ρ2 he ⟨x2, rfl⟩
    obtain ⟨x, hx, rfl⟩ := getq_map he
    have hi := lt_of_get hx
    have hst := grp_take hx
    have hln : (grp (u.take i)).length ≤ i := by
      have := fold_len ((u.take i).map fun x => (x, (1 : Int))) []
      rw [List.length_map, List.length_take] at this
      unfold grp norm
      simp at this ⊢; omega
    generalize grp (u.take i) = rows at hst hln
    show sIf _ _ _ _ [some d, some (.lst (some a) (rows.map pr)), some (.int x)]
    have oR := owns_pr rows
    have app : ∀ D0 : DEnds, D0.nx [some d, some (.lst (some a) ((rows ++ [(x, 1)]).map pr)), some (.int x)] → sDrop (eApp (lVar 1) (eTup (aVal (ePure (pVar 2)) (aVal (ePure (pC (.int 1))) aNil)))) D0 [some d, some (.lst (some a) (rows.map pr)), some (.int x)] := by
      intro D0 q
      refine xdrop (xapp rfl (xtup (a_pure (d := .int x) (pv_var rfl) rfl (a_pure pv_c rfl ⟨rfl, szc, rfl, size_lt (by rw [List.length_map]; omega), ?_⟩))))
      rw [List.map_append] at q
      exact q
    rcases last_cases rows with rfl | ⟨init, y, rfl⟩
    · refine xif (xand (xtruP (k := false) (pv_var rfl) rfl (iteF (iteF (app _ ⟨some (.int x), by rw [hst]; rfl⟩)))))
    · have ht : truD (.lst (some a) ((init ++ [y]).map pr)) = some true := by
        rw [List.map_append]
        show some (!((init.map pr ++ [pr y]).isEmpty)) = some true
        simp
      rw [nstep_app] at hst
      refine xif (xand (xtruP (k := true) (pv_var rfl) ht (iteT ?_)))
      refine t_eqI (pv_ix (x := pr y) (pv_ix (pv_var rfl) (pv_neg pv_c) rfl (by rw [List.map_append]; exact atI_last2)) pv_c rfl rfl) (pv_var rfl) ?_
      by_cases hq : y.1 = x
      · rw [show decide (V.int y.1 = V.int x) = true by rw [hq]; simp]
        refine iteT ?_
        rw [if_pos (show y.1 = (x, (1 : Int)).1 from hq)] at hst
        refine set_last (p := (1, [])) (a := a) (l := init.map pr) (z := pr y) (y := pr (x, y.2 + 1)) (fun R r => xtup (a_pure (d := .int x) (pv_var rfl) rfl (a_pure (pv_I0 (pv_ix (x := pr y) (pv_ix (pv_var rfl) (pv_neg pv_c) rfl (by rw [List.map_append]; exact atI_last2)) pv_c rfl rfl) pv_c) rfl ⟨rfl, szc, r⟩))) (fun R r => by
          show R (1, []) (.lst (some a) ((init ++ [y]).map pr))
          rw [List.map_append]; exact r) (pv_neg pv_c) ?_
        refine ⟨some (.int x), ?_⟩
        rw [hst, show (init ++ [(x, y.2 + 1)]).map pr = init.map pr ++ [pr (x, y.2 + 1)] by rw [List.map_append]; rfl]
        rfl
      · rw [show decide (V.int y.1 = V.int x) = false from decide_eq_false fun z => hq (by injection z)]
        rw [if_neg (show ¬ y.1 = (x, (1 : Int)).1 from hq)] at hst
        exact iteF (app _ ⟨some (.int x), by rw [hst]⟩)
  · rintro ρ2 ⟨x2, rfl⟩
    rw [List.length_map, List.take_length]
    exact ⟨owns_pr _, .inl ⟨od, h⟩⟩
end DL
set_option Elab.async false
set_option linter.all false
set_option maxRecDepth 100000
set_option maxHeartbeats 4000000
namespace DL
open PySem PySem.Spec PyProof.Rows L2
/-! ### units pushed one after the other -/
def inS (isA : Bool) (u : List Int) : List Int := if isA then u.reverse else u
def endS (isA : Bool) : Str := if isA then "A" else "B"
def pIn (isA : Bool) (u v : List Int) : List Int := inS isA ((inS isA u ++ v).drop v.length)
def pOut (isA : Bool) (u v : List Int) : List Int := (inS isA u ++ v).take v.length
theorem t_eqS {wa wb : Pw} {ρ : Env} {x y : Str} {QT : Bool → Env → Prop} {Qx : QX} (ha : PV wa ρ (.str x)) (hb : PV wb ρ (.str y)) (q : QT (decide (V.str x = V.str y)) ρ) : tPure rdEq wa wb ρ QT Qx := ha _ (hb _ ⟨rfl, q⟩)
theorem endA : decide (V.str (endS true) = V.str "A") = true := by decide +kernel
theorem endB : decide (V.str (endS false) = V.str "A") = false := by decide +kernel
theorem xpop {i : Nat} {ρ : Env} {Q : D → Env → Prop} {Qx : QX} {a : Addr} {l : List D} {y : D} (e : ρ[i]? = some (some (.lst (some a) l))) (hl : owns l = []) (hy : l.getLast? = some y) (q : Q y (setP ρ (i, []) (.lst (some a) l.dropLast))) : ePop (lVar i) ρ Q Qx := by
  show (match ρ[i]? with
    | some (some d) => _
    | _ => False)
  rw [e]; exact ⟨hl, y, hy, q⟩
theorem xpop0 {i : Nat} {ρ : Env} {Q : D → Env → Prop} {Qx : QX} {a : Addr} {l : List D} {y : D} (e : ρ[i]? = some (some (.lst (some a) (y :: l)))) (hl : owns (y :: l) = []) (q : Q y (setP ρ (i, []) (.lst (some a) l))) : ePopAt (lVar i) (pC (.int 0)) ρ Q Qx := by
  show (match ρ[i]? with
    | some (some d) => _
    | _ => False)
  rw [e]
  refine ⟨hl, 0, y, ?_, by decide, by decide, rfl, q⟩
  unfold seqIndex?
  simp
theorem xins0 {i : Nat} {wp : Pw} {ρ : Env} {Q : D → Env → Prop} {Qx : QX} {a : Addr} {l : List D} {y : D} (e : ρ[i]? = some (some (.lst (some a) l))) (hp : PV wp ρ y) (hl : owns l = []) (oy : own y = []) (hs : l.length < sizeLine) (q : Q .non (setP ρ (i, []) (.lst (some a) (y :: l)))) : eIns (lVar i) (pC (.int 0)) wp ρ Q Qx := by
  show (match ρ[i]? with
    | some (some d) => _
    | _ => False)
  rw [e]
  exact hp _ ⟨hl, oy, hs, by decide, by decide, q⟩
def sp_lpushed : DSp := fun ds Q _ => ∃ d e u v, ∃ isA : Bool, ds = [d, e, .str (endS isA)] ∧ isSeq d (u.map .int) ∧ isSeq e (v.map .int) ∧ u.length + v.length ≤ 90000 ∧ Q (.tup [.lst none ((pIn isA u v).map .int), .lst none ((pOut isA u v).map .int)]) [d, e, .str (endS isA)]
theorem drop_step {α} {S : List α} {i : Nat} (h : i < S.length) : ∃ y, S[i]? = some y ∧ S.drop i = y :: S.drop (i + 1) ∧ S.take (i + 1) = S.take i ++ [y] :=
  ⟨S[i], List.getElem?_eq_getElem h, List.drop_eq_getElem_cons h, by rw [List.take_add_one, List.getElem?_eq_getElem h]; rfl⟩
theorem word_lpushed : ∀ ds Qd Qx, sp_lpushed ds Qd Qx → W_law_pushed (Ends' ds Qd Qx) (entry ["pipe", "load", "end", "inside", "out", "unit"] ds) := by
  rintro ds Qd Qx ⟨d, e, u, v, isA, rfl, hd, he, hl, h⟩
  have od := seq_own hd (own_ints u)
  have oe := seq_own he (own_ints v)
  refine xseq (xset (e_listP (pv_var rfl) (seq_seq hd) (own_ints u) fun p => xseq ⟨Nat.zero_le _, fun q => xseq ?_⟩))
  refine for_seq (fun R r => e_pure (pv_var rfl) oe r) (seq3 he) (fun i ρ => ∃ t, ρ = [some d, some e, some (.str (endS isA)), some (.lst (some p) ((inS isA ((inS isA u ++ v.take i).drop i)).map .int)), some (.lst (some q) (((inS isA u ++ v.take i).take i).map .int)), t]) ⟨none, ?_⟩ ?_ ?_
  · have : inS isA ((inS isA u ++ v.take 0).drop 0) = u := by
      rw [List.take_zero, List.append_nil, List.drop_zero]
      cases isA
      · rfl
      · exact List.reverse_reverse u
    rw [this]; rfl
  · rintro i f ρ2 hf ⟨t, rfl⟩
    obtain ⟨x, hx, rfl⟩ := getq_map hf
    have hi := lt_of_get hx
    have et : v.take (i + 1) = v.take i ++ [x] := by rw [List.take_add_one, hx]; rfl
    have lu : (inS isA u).length = u.length := by cases isA; rfl; exact List.length_reverse
    have e1 : ∀ k, k ≤ i → (inS isA u ++ v.take (i + 1)).drop k = (inS isA u ++ v.take i).drop k ++ [x] := fun k hk => by
      rw [et, ← List.append_assoc, List.drop_append_of_le_length]
      rw [List.length_append, List.length_take]; omega
    have e2 : (inS isA u ++ v.take (i + 1)).take i = (inS isA u ++ v.take i).take i := by
      rw [et, ← List.append_assoc, List.take_append_of_le_length]
      rw [List.length_append, List.length_take]; omega
    obtain ⟨y, hy, d1, d2⟩ := drop_step (S := inS isA u ++ v.take (i + 1)) (i := i) (by rw [List.length_append, List.length_take]; omega)
    rw [e1 i (Nat.le_refl _)] at d1
    rw [e2] at d2
    have len0 : ((inS isA u ++ v.take i).drop i).length ≤ 90000 := by rw [List.length_drop, List.length_append, List.length_take]; omega
    have len1 : ((inS isA u ++ v.take i).take i).length ≤ 90000 := by rw [List.length_take]; omega
    generalize (inS isA u ++ v.take i).drop i = W at d1 len0
    generalize (inS isA u ++ v.take i).take i = T at d2 len1
    rw [d2]
    generalize (inS isA u ++ v.take (i + 1)).drop (i + 1) = W2 at d1
    show sIf _ _ _ _ [some d, some e, some (.str (endS isA)), some (.lst (some p) ((inS isA W).map .int)), some (.lst (some q) (T.map .int)), some (.int x)]
    refine xif (t_eqS (pv_var rfl) pv_c ?_)
    cases isA with
    | true =>
      rw [endA]
      refine iteT (xseq (xdrop (xins0 (y := .int x) rfl (pv_var rfl) (own_ints _) rfl (size_lt (by rw [List.length_map]; show W.reverse.length < _; rw [List.length_reverse]; omega)) ?_)))
      have ew : D.int x :: (inS true W).map .int = ((inS true W2).map .int) ++ [.int y] := by
        have : x :: W.reverse = W2.reverse ++ [y] := by
          have t := congrArg List.reverse d1
          rw [List.reverse_append] at t
          exact t.trans List.reverse_cons
        have t2 := congrArg (List.map D.int) this
        rw [List.map_append] at t2
        exact t2
      rw [ew]
      dsimp only
      refine xdrop (xapp rfl (xpop (y := .int y) rfl (by rw [owns_append, own_ints]; rfl) (by simp) ⟨rfl, size_lt (by rw [List.length_map]; omega), ?_⟩))
      refine ⟨some (.int x), ?_⟩
      rw [List.dropLast_concat, List.map_append]; rfl
    | false =>
      rw [endB]
      refine iteF (xseq (xdrop (xapp rfl (e_pure (d := .int x) (pv_var rfl) rfl ⟨rfl, size_lt (by rw [List.length_map]; show W.length < _; omega), ?_⟩))))
      have ew : (inS false W).map .int ++ [D.int x] = .int y :: (inS false W2).map .int := by
        have t2 := congrArg (List.map D.int) d1
        rw [List.map_append] at t2
        exact t2
      rw [ew]
      dsimp only
      refine xdrop (xapp rfl (xpop0 (y := .int y) rfl (by show own (D.int y) ++ _ = _; rw [own_ints]; rfl) ⟨rfl, size_lt (by rw [List.length_map]; omega), ?_⟩))
      refine ⟨some (.int x), ?_⟩
      rw [List.map_append]; rfl
  · rintro ρ2 ⟨t, rfl⟩
    rw [List.length_map, List.take_length]
    dsimp only
    refine xret (xtup (xval (x_frz rfl (own_ints _) (xval (x_frz rfl (own_ints _) ⟨?_, szc, fin3 od oe rfl h⟩)))))
    show owns _ ++ (owns _ ++ []) = []
    rw [own_ints, own_ints]; rfl
/-! ### great sequences -/
def sp_lgreat : DSp := fun ds Q _ => ∃ a d least, ds = [d, .int least] ∧ Pool a d ∧ 0 ≤ least ∧ least ≤ 100 ∧ ∀ (l : List (Int × Int)) d' p, least ≤ l.length → l.length < least + 6 → PosL l → Pool a d' → Q (.lst (some p) (l.map pr)) [d', .int least]
theorem pv_pow {b : Int} {k : Nat} {ρ : Env} {i : Int} (h : CPow b (k : Int)) (e : b ^ (k : Int).toNat = i) : PV (pOp rdPow (pC (.int b)) (pC (.int (k : Int)))) ρ (.int i) := fun R r => ⟨h, by show R (.int _); rw [e]; exact r⟩
theorem word_lgreat : ∀ ds Qd Qx, sp_lgreat ds Qd Qx → W_law_great sp_lseq sp_take (Ends' ds Qd Qx) (entry ["pool", "least", "found", "batch"] ds) := by
  rintro ds Qd Qx ⟨a, d, least, rfl, hp, l0, l1, h⟩
  refine xseq ⟨Nat.zero_le _, fun p => xseq ?_⟩
  refine xfor (xtp (c_pool (vs := [.int least, .int 6]) rfl hp (fun QA r => a_pure (pv_var rfl) rfl (a_pure pv_c rfl r)) ⟨a, d, least, 6, rfl, hp, l0, l1, by decide, by decide, fun l d1 hl0 hl1 hok hp1 => poolq (Nat.le_of_ble_eq_true rfl) rfl ?_⟩))
  have p6 : ∀ ρ : Env, PV (pOp rdPow (pC (.int 10)) (pC (.int 6))) ρ (.int 1000000) := fun ρ => pv_pow (k := 6) ⟨by decide, by decide, by decide⟩ (by decide)
  refine ⟨fun i ρ => ∃ d m t, Pool a d ∧ m.length = i ∧ PosL m ∧ ρ = [some d, some (.int least), some (.lst (some p) (m.map pr)), t], ⟨d1, [], none, hp1, rfl, posL_nil, rfl⟩, ?_, ?_⟩
  · rintro i e ρ2 he ⟨d2, m, t, hp2, hm, pm, rfl⟩
    obtain ⟨x, hx, rfl⟩ := getq_map he
    have hi := lt_of_get hx
    refine xdrop (xapp rfl (xtup (a_pure (d := .int x.1) (pv_ix (x := pr x) (pv_var rfl) pv_c rfl rfl) rfl (xval (xop (xop (e_pure pv_c rfl ⟨rfl, xop (c_take rfl hp2 (p6 _) (by decide) (by decide) fun y d3 y0 y1 hp3 => ⟨rfl, e_pure (p6 _) rfl ⟨mul_small (by decide) (by decide), ?_⟩⟩)⟩))))))) 
    refine ⟨rfl, c_take rfl hp3 (p6 _) (by decide) (by decide) fun z d4 z0 z1 hp4 => ?_⟩
    refine ⟨rfl, szc, rfl, size_lt (by rw [List.length_map]; omega), ?_⟩
    refine ⟨d4, m ++ [(x.1, 1 + y * 1000000 + z)], some (pr x), hp4, by simp [hm], pm.app (posL_one (by show 0 < 1 + y * 1000000 + z; omega)), ?_⟩
    rw [List.map_append]; rfl
  · rintro ρ2 ⟨d2, m, t, hp2, hm, pm, rfl⟩
    rw [List.length_map] at hm
    exact fin_p2 hp hp2 rfl (h m d2 p (by omega) (by omega) pm hp2)
end DL
set_option Elab.async false
set_option linter.all false
set_option maxRecDepth 100000
set_option maxHeartbeats 2000000
namespace DL
open PySem PySem.Spec PyProof.Rows L2
/-! ### == of data as a whole -/
mutual
def pyD : D → Option PyData
  | .non => some .none
  | .bl b => some (.bool b)
  | .int i => some (.int i)
  | .str x => some (.str x)
  | .tup l => (pyDs l).map .tuple
  | .lsk l => (pyDs l).map .list
  | .lst _ l => (pyDs l).map .list
  | .hole => none
  | .cv _ => none
  | .dct _ _ _ => none
  | .ins _ _ _ _ => none
def pyDs : List D → Option (List PyData)
  | [] => some []
  | d :: l => match pyD d, pyDs l with
    | some p, some ps => some (p :: ps)
    | _, _ => none
end
section
variable {K : PySem.W.Frag} {Z H : Hp}
mutual
theorem pyD_rep (hz : Sub Z H) : ∀ (d : D) (v : V) (p : PyData), pyD d = some p → Rep K Z H d v → Dp K H v p
  | .non, v, p, h, r => by cases h; rw [show v = .non from r]; exact .non
  | .bl b, v, p, h, r => by cases h; rw [show v = .bl b from r]; exact .bl b
  | .int i, v, p, h, r => by cases h; rw [show v = .int i from r]; exact .int i
  | .str x, v, p, h, r => by cases h; rw [show v = .str x from r]; exact .str x
  | .tup l, v, p, h, r => by
    obtain ⟨ps, hp, rfl⟩ := Option.map_eq_some_iff.mp h
    obtain ⟨_, a, vs, rfl, hs, hr⟩ := r
    exact .tup (sub_t hz hs) (pyDs_rep hz l vs ps hp hr)
  | .lsk l, v, p, h, r => by
    obtain ⟨ps, hp, rfl⟩ := Option.map_eq_some_iff.mp h
    obtain ⟨_, a, vs, rfl, hs, hr⟩ := r
    exact .lst (sub_l hz hs) (pyDs_rep hz l vs ps hp hr)
  | .lst none l, v, p, h, r => by
    obtain ⟨ps, hp, rfl⟩ := Option.map_eq_some_iff.mp h
    obtain ⟨_, a, vs, rfl, hs, hr⟩ := r
    exact .lst (SqL.of (hz _ _ hs)) (pyDs_rep hz l vs ps hp hr)
  | .lst (some a) l, v, p, h, r => by
    obtain ⟨ps, hp, rfl⟩ := Option.map_eq_some_iff.mp h
    obtain ⟨rfl, _, vs, hs, hr⟩ := r
    exact .lst (SqL.of hs) (pyDs_rep hz l vs ps hp hr)
  | .hole, v, p, h, r => by cases h
  | .cv _, v, p, h, r => by cases h
  | .dct _ _ _, v, p, h, r => by cases h
  | .ins _ _ _ _, v, p, h, r => by cases h
theorem pyDs_rep (hz : Sub Z H) : ∀ (l : List D) (vs : List V) (ps : List PyData), pyDs l = some ps → Reps K Z H l vs → DpAll K H vs ps
  | [], vs, ps, h, r => by cases h; rw [show vs = [] from r]; exact .nil
  | d :: l, vs, ps, h, r => by
    obtain ⟨v, vr, rfl, r1, r2⟩ := r
    unfold pyDs at h
    split at h
    · rename_i p qs h1 h2
      cases h
      exact .cons (pyD_rep hz d v p h1 r1) (pyDs_rep hz l vr qs h2 r2)
    · cases h
end
end
def rdEqD : RD := fun x y Q => ∃ p q, pyD x = some p ∧ pyD y = some q ∧ SeqAt.shaped p = true ∧ SeqAt.shaped q = true ∧ Q (.bl (PyData.eqv p q))
def rdNeD : RD := fun x y Q => ∃ p q, pyD x = some p ∧ pyD y = some q ∧ SeqAt.shaped p = true ∧ SeqAt.shaped q = true ∧ Q (.bl (!PyData.eqv p q))
section
variable {X : Cx} {W : WX}
theorem dop_eqD (hu : X.A.units + 64 < cLine) : DOp X (compareOp .Eq) rdEqD := by
  refine ⟨_, op_eqD hu, fun Z H x y u v Q hz rx ry w QQ q => ?_⟩
  obtain ⟨p, r, h1, h2, s1, s2, w⟩ := w
  exact ⟨p, r, pyD_rep hz x u p h1 rx, pyD_rep hz y v r h2 ry, s1, s2, q _ _ w rfl rfl⟩
theorem dop_neD (hu : X.A.units + 64 < cLine) : DOp X (compareOp .NotEq) rdNeD := by
  refine ⟨_, op_neD hu, fun Z H x y u v Q hz rx ry w QQ q => ?_⟩
  obtain ⟨p, r, h1, h2, s1, s2, w⟩ := w
  exact ⟨p, r, pyD_rep hz x u p h1 rx, pyD_rep hz y v r h2 ry, s1, s2, q _ _ w rfl rfl⟩
variable {e : Expr} {we wa wb : Ew} {pos p2 : Pos} {ρ : Env} {Q : D → Env → Prop} {QB : Bool → Env → Prop} {Qx : QX}
/-- a slice of what an expression tells -/
def eSlcE (we : Ew) (lo hi : Option Pw) : Ew := fun ρ Q Qx => we ρ (fun d ρ1 => match d with
  | .tup l => owns l = [] ∧ poW lo ρ1 fun i => poW hi ρ1 fun j => Q (.tup (cutD l i j)) ρ1
  | .lst none l => owns l = [] ∧ poW lo ρ1 fun i => poW hi ρ1 fun j => ∀ p, Q (.lst (some p) (cutD l i j)) ρ1
  | _ => False) Qx
theorem de_slcE {l h : Option Expr} {lo hi : Option Pw} (ha : DE X W e we) (hl : DPO X l lo) (hh : DPO X h hi) : DE X W (.Subscript e (.Slice l h none p2) pos) (eSlcE we lo hi) := by
  obtain ⟨t, pa, ra⟩ := ha
  obtain ⟨tl, pl, rl⟩ := hl
  obtain ⟨th, ph, rh⟩ := hh
  refine ⟨_, pe_slice (SlR.or sl_list sl_tupA) pa pl ph, fun σ H Z ρ Q Qx s w fx QQ q => ?_⟩
  refine ra σ H Z ρ _ Qx s w fx _ fun v d ρ1 Z1 H1 wd o => ?_
  cases d with
  | tup l =>
    have st : Step Z H (eo ρ) Z1 H1 (eo ρ1) := o.b.step
    have rd := o.rep
    refine rl σ H1 Z1 ρ1 _ o.st wd.2 _ fun i wi => rh σ H1 Z1 ρ1 _ o.st wi _ fun j wj => ?_
    obtain ⟨_, a, vs, e, hs, hr⟩ := id rd
    refine .inr ⟨a, vs, by rw [e], sub_t o.st.sub hs, fun hall => ?_, fun _ p hp => q _ _ ρ1 _ _ wj ((out_tup o.st hp (reps_cutD hr) (owns_cutD wd.1)).pre st)⟩
    rw [hr.length] at hall
    rw [cutD_all hall] at wj
    rw [← e]; exact q _ _ ρ1 Z1 H1 wj o
  | lst m l => cases m with
    | some a => exact wd.elim
    | none =>
      have st : Step Z H (eo ρ) Z1 H1 (eo ρ1) := o.b.step
      have rd := o.rep
      refine rl σ H1 Z1 ρ1 _ o.st wd.2 _ fun i wi => rh σ H1 Z1 ρ1 _ o.st wi _ fun j wj => ?_
      obtain ⟨a, vs, e, hv, hr⟩ := lst_read o.st.sub rd
      exact .inl ⟨a, vs, by rw [e], SqL.of hv, fun p hp => q _ _ ρ1 Z1 _ (wj p) ((out_new o.st hp (reps_cutD hr) (owns_cutD wd.1)).pre st)⟩
  | _ => exact wd.elim
theorem rdNeD_self {x : D} {p : PyData} {Q : D → Prop} (h : pyD x = some p) (s : SeqAt.shaped p = true) (q : Q (.bl false)) : rdNeD x x Q := ⟨p, p, h, h, s, s, by
  rw [SeqAt.eqv_refl p (SeqAt.canLay_of_shaped s)]; exact q⟩
theorem pyDs_ints : ∀ u : List Int, pyDs (u.map .int) = some (u.map .int)
  | [] => rfl
  | x :: u => by rw [List.map_cons]; unfold pyDs; rw [pyDs_ints u]; rfl
theorem canLay_ints : ∀ u : List Int, PyData.canLayAll0 (u.map .int) = true
  | [] => rfl
  | x :: u => by rw [List.map_cons]; unfold PyData.canLayAll0; rw [canLay_ints u]; rfl
theorem depth_ints : ∀ u : List Int, PyData.depthAll (u.map .int) = 0
  | [] => rfl
  | x :: u => by rw [List.map_cons]; unfold PyData.depthAll; rw [depth_ints u]; rfl
theorem shaped_ints (u : List Int) : SeqAt.shaped (.list (u.map .int)) = true := by
  unfold SeqAt.shaped
  rw [Bool.and_eq_true]
  refine ⟨?_, decide_eq_true ?_⟩
  · unfold PyData.canLay0; exact canLay_ints u
  · unfold PyData.depth; rw [depth_ints]; decide
end
end DL
set_option Elab.async false
set_option linter.all false
set_option maxRecDepth 100000
set_option maxHeartbeats 4000000
namespace DL
open PySem PySem.Spec PyProof.Rows L2
theorem dat_sq (u : List Int) (h : (grp u).length < 100000) : Dat 2 (sq u) := ⟨by rw [List.length_map]; exact h, fun d hd => by
  obtain ⟨x, _, rfl⟩ := List.mem_map.mp hd
  exact dat_pr x⟩
theorem grp_len (u : List Int) : (grp u).length ≤ u.length := by
  have := fold_len (u.map fun x => (x, (1 : Int))) []
  rw [List.length_map] at this
  unfold grp norm
  simpa using this
theorem dat_succ : ∀ {n : Nat} {d : D}, Dat n d → Dat (n + 1) d
  | _, .non, _ => by unfold Dat; trivial
  | _, .bl _, _ => by unfold Dat; trivial
  | _, .int _, _ => by unfold Dat; trivial
  | _, .str _, _ => by unfold Dat; trivial
  | n + 1, .tup l, h => ⟨h.1, fun d hd => dat_succ (h.2 d hd)⟩
  | n + 1, .lst none l, h => ⟨h.1, fun d hd => dat_succ (h.2 d hd)⟩
  | 0, .tup l, h => by unfold Dat at h; exact h.elim
  | 0, .lst none l, h => by unfold Dat at h; exact h.elim
  | 0, .lst (some _) l, h => by unfold Dat at h; exact h.elim
  | n + 1, .lst (some _) l, h => by unfold Dat at h; exact h.elim
  | 0, .hole, h => by unfold Dat at h; exact h.elim
  | n + 1, .hole, h => by unfold Dat at h; exact h.elim
  | 0, .cv _, h => by unfold Dat at h; exact h.elim
  | n + 1, .cv _, h => by unfold Dat at h; exact h.elim
  | 0, .lsk _, h => by unfold Dat at h; exact h.elim
  | n + 1, .lsk _, h => by unfold Dat at h; exact h.elim
  | 0, .dct _ _ _, h => by unfold Dat at h; exact h.elim
  | n + 1, .dct _ _ _, h => by unfold Dat at h; exact h.elim
  | 0, .ins _ _ _ _, h => by unfold Dat at h; exact h.elim
  | n + 1, .ins _ _ _ _, h => by unfold Dat at h; exact h.elim
theorem dat_two {u v : List Int} (h1 : (grp u).length < 100000) (h2 : (grp v).length < 100000) : Dat 3 (.tup [sq u, sq v]) := ⟨by show 2 < 100000; decide, fun d hd => by
  rcases List.mem_cons.mp hd with rfl | hd
  · exact dat_sq u h1
  · rcases List.mem_cons.mp hd with rfl | hd
    · exact dat_sq v h2
    · cases hd⟩
theorem pin_len (isA : Bool) (u v : List Int) : (pIn isA u v).length ≤ u.length + v.length ∧ (pOut isA u v).length ≤ v.length := by
  unfold pIn pOut
  constructor
  · cases isA
    · show (List.drop _ (u ++ v)).length ≤ _
      rw [List.length_drop, List.length_append]; omega
    · show (List.drop _ (u.reverse ++ v)).reverse.length ≤ _
      rw [List.length_reverse, List.length_drop, List.length_append, List.length_reverse]; omega
  · rw [List.length_take]; omega
theorem grpflat_len {l : List (Int × Int)} (h : PosL l) : (grp (flat l)).length ≤ l.length := by
  rw [← norm_grp h]
  have := fold_len l []
  unfold norm
  simpa using this
theorem grp_cut_len {l m : List (Int × Int)} (pl : PosL l) (pm : PosL m) (n : Nat) : (grp ((flat l ++ flat m).drop n)).length ≤ l.length + m.length ∧ (grp ((flat l ++ flat m).take n)).length ≤ l.length + m.length := by
  obtain ⟨c1, c2, c3, c4⟩ := cut_flat (l ++ m) (n : Int) (pl.app pm) (by omega)
  have e : ((n : Int)).toNat = n := by omega
  rw [e, flat_append] at c3 c4
  have l1 := cut_len (l ++ m) (n : Int)
  rw [List.length_append] at l1
  rw [← c3, ← c4]
  have := grpflat_len c1
  have := grpflat_len c2
  omega
theorem tots_app (a b : List (Int × Int)) : tots (a ++ b) = tots a + tots b := by unfold tots; rw [List.map_append, List.sum_append]
theorem tots_ok : ∀ {l : List (Int × Int)}, SeqOk l → tots l ≤ 6 * l.length
  | [], _ => by decide
  | x :: l, h => by
    have i := tots_ok (l := l) fun y hy => h y (List.mem_cons_of_mem _ hy)
    have hx := h x (List.mem_cons_self ..)
    have e : tots (x :: l) = x.2 + tots l := by unfold tots; rw [List.map_cons, List.sum_cons]
    rw [e, List.length_cons]; omega
theorem seqok_cat {a b} (h : SeqOk a) (h2 : SeqOk b) : SeqOk (a ++ b) := fun x hx => (List.mem_append.mp hx).elim (h x) (h2 x)
/-! ### the first run of a product -/
def lead (p : Int) (u : List Int) : Nat := (u.takeWhile (· == p)).length
def kept (p : Int) (x : Int × Int) : Int := if x.1 = p then x.2 else 0
theorem lead_le (p : Int) : ∀ u : List Int, lead p u ≤ u.length
  | [] => Nat.le_refl _
  | x :: u => by
    unfold lead
    rw [List.takeWhile_cons]
    split
    · have := lead_le p u
      unfold lead at this
      simp; exact this
    · simp
theorem lead_take (p : Int) : ∀ (u : List Int) (n : Nat), n ≤ u.length → ((∀ x ∈ u.take n, x = p) ↔ n ≤ lead p u)
  | [], n, h => by simp at h; subst h; simp
  | x :: u, 0, h => by simp
  | x :: u, n + 1, h => by
    have i := lead_take p u n (by simpa using h)
    unfold lead at i ⊢
    rw [List.takeWhile_cons, List.take_succ_cons]
    by_cases e : x = p
    · subst e
      rw [if_pos (by simp)]
      simp only [List.mem_cons, forall_eq_or_imp, true_and, List.length_cons]
      rw [Nat.add_le_add_iff_right]; exact i
    · rw [if_neg (by simpa using e)]
      simp only [List.mem_cons, forall_eq_or_imp, List.length_nil]
      constructor
      · intro z; exact absurd z.1 e
      · intro z; omega
theorem lead_rep (p a : Int) (u : List Int) (hu : ∀ x, u.head? = some x → x ≠ a) : ∀ n : Nat, 0 < n → lead p (List.replicate n a ++ u) = if a = p then n else 0
  | 0, h => absurd h (by omega)
  | n + 1, _ => by
    unfold lead
    rw [List.replicate_succ, List.cons_append, List.takeWhile_cons]
    by_cases e : a = p
    · subst e
      rw [if_pos (by simp), if_pos rfl]
      by_cases hn : 0 < n
      · have i := lead_rep a a u hu n hn
        unfold lead at i
        rw [if_pos rfl] at i
        simp only [List.length_cons]; omega
      · have : n = 0 := by omega
        subst this
        show (u.takeWhile (· == a)).length + 1 = 1
        cases u with
        | nil => rfl
        | cons x u =>
          rw [List.takeWhile_cons, if_neg (by simpa using hu x rfl)]; rfl
    · rw [if_neg (by simpa using e), if_neg e]; rfl
theorem flat_head {l : List (Int × Int)} (h : PosL l) : (flat l).head? = l.head?.map (·.1) := by
  cases l with
  | nil => rfl
  | cons x l =>
    have hx := h x (List.mem_cons_self ..)
    rw [flat_cons, show x.2.toNat = (x.2.toNat - 1) + 1 by omega, List.replicate_succ]; rfl
theorem lead_grp {l : List (Int × Int)} {x : Int × Int} (p : Int) (h : PosL (x :: l)) (a : Adj (x :: l)) : (lead p (flat (x :: l)) : Int) = kept p x := by
  have hx := h x (List.mem_cons_self ..)
  rw [flat_cons, lead_rep p x.1 (flat l) ?_ _ (by omega)]
  · unfold kept
    split
    · omega
    · rfl
  · intro y hy
    rw [flat_head (fun z hz => h z (List.mem_cons_of_mem _ hz))] at hy
    cases l with
    | nil => cases hy
    | cons z l =>
      cases hy
      exact (a 0 x z rfl rfl).symm
theorem grp_rep {n : Nat} {p : Int} (h : 0 < n) : grp (List.replicate n p) = [(p, (n : Int))] := by
  have := grp_of (l := [(p, (n : Int))]) (posL_one (by show (0 : Int) < n; omega)) (by
    intro i x y h1 h2
    cases i with
    | zero => cases h2
    | succ i => cases h1)
  rw [flat_one] at this
  exact this
end DL
set_option Elab.async false
set_option linter.all false
set_option maxRecDepth 100000
set_option maxHeartbeats 4000000
namespace DL
open PySem PySem.Spec PyProof PyProof.Rows L2
/-! ### enumerate of a tuple -/
theorem meets_enumB {v : Value} {ob : Obj} {J : Heap → Prop} (B : Begins v ob J) :
    Meets (Builtin.«enumerate.__new__» ⟨[.type "enumerate", v], []⟩)
      (fun _ R sh => J sh.heap ∧ R (.ok (.ret (.ref (sh.heap.push ob).objs.size)))
        { sh with heap := (sh.heap.push ob).push
                    { cls := .type "enumerate", data := .fields #[.none, .bool false, .ref sh.heap.objs.size, rawInt 0, .none, .none] } }) :=
  .of_wp fun prog w A R sh z => by
    obtain ⟨hq, gl, dq, tq, oq⟩ := sh
    obtain ⟨j1, z⟩ := z
    have subE := sub_enumerate
    have iterB : ∀ {A1 : Around} {E1 : Value → Shared → Prop} {Q1 : Value → Shared → Prop}, Q1 (.ref hq.objs.size) ⟨hq.push ob, gl, dq, tq, oq⟩ →
        wpAny (model prog w) A1 (pyIter v) Q1 E1 ⟨hq, gl, dq, tq, oq⟩ := fun y => B.iter prog w _ _ ⟨hq, gl, dq, tq, oq⟩ _ j1 y
    wp_walk using iterB
    refine wpAny_stack_any fun _ => wpAny_pure ?_
    split
    · rename_i c _ _ _ _ _
      cases (c == Value.type "enumerate") <;> (wp_walk using iterB; exact ⟨_, rfl, z⟩)
    · wp_walk using iterB; exact ⟨_, rfl, z⟩
section
variable {prog : Program} {w : World} {A : Around} {E : Value → Shared → Prop} {s : Shared}
theorem call_enumB {v : Value} {ob : Obj} {J : Heap → Prop} {Q : Value → Shared → Prop} (B : Begins v ob J) (j1 : J s.heap)
    (q : ∀ hn, IsEnum hn (s.heap.objs.size + 1) s.heap.objs.size 0 .none → hn.get? s.heap.objs.size = some ob → (∀ b u, s.heap.get? b = some u → hn.get? b = some u) →
        Q (.ref (s.heap.objs.size + 1)) { s with heap := hn }) : wpAny (model prog w) A (call (.type "enumerate") [v]) Q E s := by
  refine callType_new F.called_enumerate (by decide) (F.typeCall_enumerate_1 _) (F.newCall_enumerate_1 _) (fun ob2 => F.args_object_init_2 ob2 _)
    F.entry_enumerate_new (meets_enumB B) ⟨j1, ?_⟩
  have z1 : (s.heap.push ob).objs.size = s.heap.objs.size + 1 := Heap.size_push ..
  show _ ∧ _
  rw [z1]
  have en : IsEnum ((s.heap.push ob).push
        { cls := .type "enumerate", data := .fields #[.none, .bool false, .ref s.heap.objs.size, rawInt 0, .none, .none] })
      (s.heap.objs.size + 1) s.heap.objs.size 0 .none := by
    have g := Heap.get?_push_size (s.heap.push ob)
        (o := { cls := .type "enumerate", data := .fields #[.none, .bool false, .ref s.heap.objs.size, rawInt 0, .none, .none] }) rfl
    rw [z1] at g
    exact g
  exact ⟨⟨_, en, rfl⟩, q _ en (Heap.get?_push_of_some _ (Heap.get?_push_size _ B.free)) fun b u y => Heap.get?_push_of_some _ (Heap.get?_push_of_some _ y)⟩
end
/-- the tuple at a, each item in a new pair -/
def IteT (K : PySem.W.Frag) (a : Addr) : It :=
  ⟨fun i H => ∃ (xs : List V) (x : V), SqT K H a xs ∧ xs[i]? = some x,
   fun i H v H2 => ∃ T x, v = .ref T ∧ H T = none ∧ H2 = upd H T (.tup [.int (i : Nat), x]) ∧ ∀ xs, SqT K H a xs → xs[i]? = some x,
   fun i H => ∃ xs : List V, SqT K H a xs ∧ xs.length ≤ i⟩
theorem enum_apart {h : Heap} {e it a : Addr} {i : Int} {k : Nat} {old : Value} {its : Array Value} (he : IsEnum h e it i old) (ht : h.IsTuple a its) (hi : h.IsTupleIter it a k) : e ∉ [it, a] ∧ a ≠ it := by
  obtain ⟨o1, g1, c1, _⟩ := ht
  obtain ⟨o2, g2, c2, _⟩ := hi
  have ea : e ≠ a := fun z => by
    subst z
    rw [show h.get? e = _ from he] at g1
    cases g1
    exact absurd (Value.type.inj c1) (by decide)
  have ei : e ≠ it := fun z => by
    subst z
    rw [show h.get? e = _ from he] at g2
    cases g2
    exact absurd (Value.type.inj c2) (by decide)
  have ai : a ≠ it := fun z => by
    subst z
    rw [g1] at g2
    cases g2
    rw [c1] at c2
    exact absurd (Value.type.inj c2) (by decide)
  exact ⟨by simp [ea, ei], ai⟩
theorem turn_enumT {P : Program} {w : World} {K : PySem.W.Frag} {elts : List Expr} {kk : Nat} {tpos : Pos} (a e it : Addr) :
    Turn P w K (.Tuple elts kk tpos) (IteT K a) [e, it] e (fun i h => (∃ old, IsEnum h e it ((i : Nat) : Int) old) ∧ h.IsTupleIter it a i ∧ e ≠ it) where
  mem := by simp
  obj := fun i h st b hb => by
    obtain ⟨⟨old, en⟩, ⟨o, g, c, d⟩, _⟩ := st
    rcases List.mem_cons.mp hb with rfl | hb
    · exact ⟨_, en, fun v y => nomatch y⟩
    · rw [List.mem_singleton.mp hb]
      exact ⟨o, g, fun v y => by rw [d] at y; cases y⟩
  keep := fun i h h2 st k => by
    obtain ⟨⟨old, en⟩, ti, ne⟩ := st
    exact ⟨⟨old, k e (by simp) _ en⟩, ti.at fun o y => k it (by simp) o y, ne⟩
  item := by
    intro X hP hw hK hc i pins s σ H E I hf st hg
    subst hP hw hK
    obtain ⟨⟨old, en⟩, ti, ne⟩ := st
    obtain ⟨xs, x, hq, hx⟩ := hg
    obtain ⟨its, rv, p, hz⟩ := I.tuple hq
    obtain ⟨u, hu, ru⟩ := rv.get hx
    have tp : s.heap.IsTuple a its.toArray := p
    obtain ⟨ap1, ap2⟩ := enum_apart en tp ti
    have il : i < its.toArray.size := by
      rw [List.size_toArray]
      exact lt_of_get hu
    have el : e < s.heap.objs.size := Heap.lt_size en
    have tl : it < s.heap.objs.size := by obtain ⟨_, y, _⟩ := ti; exact Heap.lt_size y
    refine wpAny_pyNext_enum_itemD (Draws.tuple (A := X.A.in1) (show X.A.in1.handled = none from I.ok.hd hc) it a ap2 its.toArray) en ⟨ti, tp⟩ il ne ap1 fun y hn tk hy out st2 hT hsz hk => ?_
    have ey : y = u := by
      have h1 : its.toArray[i]? = some y := hy
      have h2 : its.toArray[i]? = some u := by simpa using hu
      exact Option.some.inj (h1.symm.trans h2)
    subst ey
    refine ⟨_, rfl, wpAny_letOwnedTupleGo_enum (s := { s with heap := hn, toks := tk + 1 }) out fun hm en2 sb => ?_⟩
    have hT2 : hm.get? s.heap.objs.size = some { cls := .type "tuple", data := .seq #[.int i tk, y] } := (sb.2 _ (Nat.ne_of_gt el)).trans hT
    have new : ObjOk X.prog X.w (upd H s.heap.objs.size (.tup [.int (i : Nat), x])) hm s.heap.objs.size (.tup [.int (i : Nat), x]) :=
      ⟨by show 2 ≤ sizeLine; decide, [.int i tk, y], .cons ⟨_, rfl⟩ (.cons ru .nil), ⟨_, hT2, rfl, _, rfl⟩⟩
    have I1 : Inv X pins σ (upd H s.heap.objs.size (.tup [.int (i : Nat), x])) { s with heap := hm, toks := tk + 1 } :=
      I.turnedNew (ch := [e, it]) (fun b ob nb y2 => (sb.2 b (fun z => nb (by simp [z]))).trans (hk b ob (fun z => nb (by simp [z])) (fun z => nb (by simp [z])) y2)) hf (Nat.le_refl _) new
    refine ⟨.ref s.heap.objs.size, _, I1, rfl, ⟨_, x, rfl, I.hok.fresh (Nat.le_refl _), rfl, fun ys hys => by rw [I.tuple_inj hys hq]; exact hx⟩, ⟨⟨y, ?_⟩, ?_, ne⟩, fun b hb => ?_⟩
    · rw [show ((i + 1 : Nat) : Int) = (i : Int) + 1 by omega]
      exact en2
    · exact st2.1.at fun o y2 => (sb.2 it (Ne.symm ne)).trans y2
    · have bl : b < s.heap.objs.size := by
        rcases List.mem_cons.mp hb with rfl | hb
        · exact el
        · rw [List.mem_singleton.mp hb]; exact tl
      rw [upd_ne (Nat.ne_of_lt bl)]
      exact (hf b hb).1
  done := by
    intro X hP hw hK hc i pins s σ H E I hf st hg
    subst hP hw hK
    obtain ⟨⟨old, en⟩, ti, ne⟩ := st
    obtain ⟨xs, hq, hx⟩ := hg
    obtain ⟨its, rv, p, hz⟩ := I.tuple hq
    have tp : s.heap.IsTuple a its.toArray := p
    obtain ⟨f0, f1, f2, f3, f4, f5⟩ := hf it (by simp)
    have hl := rv.length
    unfold pyNext
    have tyE : s.TypeIs (.ref e) "enumerate" := ⟨_, en, rfl⟩
    refine wpAny_bind (wpAny_attempt (wpAny_callSpecial?_slot (name := Str.ofString "__next__") tyE F.slot_enumerate_next
      (wpAny_call_entry F.slot_enumerate_next tyE F.entry_enumerate_next ?_ (F.args_enumerate_next_1 _))))
    show wpAny _ _ (field (.ref e) 2 >>= _) _ _ _
    refine wpAny_bind (wpAny_field en rfl (x := .ref it) rfl ?_)
    refine wpAny_bind (wpAny_nextOf_tuple_end (I.ok.hd hc) ti tp (by simp; omega) fun hn x2 eb hx2 => ?_)
    obtain ⟨o2, g2, c2⟩ := hx2
    refine wpAny_bind (wpAny_isInstance (T := "StopIteration") (b := true) ⟨o2, g2, c2⟩ isSubtype_stop ?_)
    exact wpAny_pure ⟨rfl, I.turned (t' := s.toks) (fun b ob nb y => eb b ob nb y) f0 f1 f3 f4 f5⟩
  self := fun A i s Q E st y => let ⟨⟨_, en⟩, _⟩ := st; wpAny_pyIter_enum en y
def iEnumTW (K : PySem.W.Frag) (ta : TA) : TI := fun σ H R => ta σ H fun vs H1 => ∃ a xs, vs = [.ref a] ∧ SqT K H1 a xs ∧ R (IteT K a) H1
theorem pi_enumT {X : Cx} {e : Expr} {ta : TA} {p pos tpos : Pos} {elts : List Expr} {kk : Nat} (hg : Gl X "enumerate") (hm : X.mg "enumerate" = none) (ha : PA X [e] ta)
    (hs : starEach [e] X.env = [(false, eval e X.env)] := by rfl) : PI X (.Tuple elts kk tpos) (.Call (.Name "enumerate" p) [e] [] pos) (iEnumTW X.K ta) := by
  refine ⟨fun pins s σ H R I y => ?_⟩
  refine Call_ (ld_blt I hg hm boot_enumerate (PyProof.Rows.callWith_type1 (thn (ha.run pos pins s σ H _ I y) fun us s1 ⟨vs, H1, I1, r1, q1⟩ => ?_) hs rfl))
  obtain ⟨a, xs, ex, hq, q⟩ := q1
  subst ex
  cases r1 with
  | cons r rr =>
    cases rr
    cases r
    obtain ⟨its, rv, p2, hz⟩ := I1.tuple hq
    refine call_enumB (begins_tuple a its.toArray) p2 fun hn en gi hk => wpAny_pyIter_enum en ?_
    have I2 : Inv X pins σ H1 { s1 with heap := hn } := I1.kept (t' := s1.toks) hk
    refine ⟨s1.heap.objs.size + 1, [s1.heap.objs.size + 1, s1.heap.objs.size], _, _, H1, rfl, I2, turn_enumT a (s1.heap.objs.size + 1) s1.heap.objs.size,
      ⟨⟨.none, en⟩, ⟨_, gi, rfl, rfl⟩, Nat.succ_ne_self _⟩, fun b hb => ?_, q⟩
    have le : s1.heap.objs.size ≤ b := by
      rcases List.mem_cons.mp hb with rfl | hb
      · omega
      · rw [List.mem_singleton.mp hb]; exact Nat.le_refl _
    exact I1.fpOk le (I1.hok.fresh le)
/-! ### .. by data -/
section
variable {X : Cx} {W : WX} {e tg : Expr} {wa : Ew} {p pos tpos : Pos} {elts : List Expr} {kk : Nat}
def iEnumT (wa : Ew) : Iw := fun ρ Q Qx => wa ρ (fun d ρ2 => match d with
  | .tup l => Q (enumD l) ρ2
  | _ => False) Qx
theorem walk_enumT {K : PySem.W.Frag} {Z H : Hp} {p : Addr} {vs : List V} {l : List D} (hs : SqT K Z p vs) (hr : Reps K Z H l vs) (n : owns l = []) : Walk K Z (IteT K p) (enumD l) := by
  refine ⟨enumD_own n, fun Z1 H1 hz hh i => ⟨fun d hd => ?_, fun hd => ?_⟩⟩
  · unfold enumD at hd
    rw [List.getElem?_mapIdx] at hd
    cases h0 : l[i]? with
    | none => rw [h0] at hd; cases hd
    | some c =>
      rw [h0] at hd
      cases hd
      obtain ⟨v, h1, h2⟩ := hr.get h0
      have hS : SqT K H1 p vs := sub_t (hz.trans hh) hs
      have oc := owns_nil.mp n c (List.mem_of_getElem? h0)
      refine ⟨⟨vs, v, hS, h1⟩, fun x H2 hy => ?_⟩
      obtain ⟨T, x2, rfl, hT, rfl, hx⟩ := hy
      have : x2 = v := Option.some.inj ((hx vs hS).symm.trans h1)
      subst this
      have en := enum_item (i := i) hh hT (Rep.sh (H' := H1) hz oc h2) oc
      exact ⟨_, en.1, en.2.2⟩
  · refine ⟨vs, sub_t (hz.trans hh) hs, ?_⟩
    have := get_none_len hd
    rw [hr.length]
    simpa [enumD] using this
theorem di_enumT (h : DE X W e wa) (hg : Gl X "enumerate") (hm : X.mg "enumerate" = none) (hs : starEach [e] X.env = [(false, eval e X.env)] := by rfl) : DI X W (.Tuple elts kk tpos) (.Call (.Name "enumerate" p) [e] [] pos) (iEnumT wa) := by
  obtain ⟨t, pe, r⟩ := h
  refine ⟨_, pi_enumT hg hm (pa_cons pe pa_nil hs) hs, fun σ H Z ρ Q Qx s w fx R q => ?_⟩
  refine r σ H Z ρ _ Qx s w fx _ fun v d ρ2 Z2 H2 w2 o => ?_
  cases d with
  | tup l =>
    obtain ⟨n, a, vs, ev, hs, hr⟩ := id o.rep
    exact ⟨a, vs, by rw [ev], sub_t o.st.sub hs, q _ ρ2 Z2 H2 _ w2 o.b (walk_enumT hs hr n)⟩
  | _ => exact w2.elim
theorem pi_either {t1 t2 : TI} (h1 : PI X tg e t1) (h2 : PI X tg e t2) : PI X tg e (fun σ H R => t1 σ H R ∨ t2 σ H R) := ⟨fun pins s σ H R I h => h.elim (h1.run pins s σ H R I) (h2.run pins s σ H R I)⟩
theorem di_either {w1 w2 : Iw} (h1 : DI X W tg e w1) (h2 : DI X W tg e w2) : DI X W tg e (fun ρ Q Qx => w1 ρ Q Qx ∨ w2 ρ Q Qx) := by
  obtain ⟨t1, p1, r1⟩ := h1
  obtain ⟨t2, p2, r2⟩ := h2
  exact ⟨_, pi_either p1 p2, fun σ H Z ρ Q Qx s w fx R q => w.elim (fun w => .inl (r1 σ H Z ρ Q Qx s w fx R q)) (fun w => .inr (r2 σ H Z ρ Q Qx s w fx R q))⟩
/-- enumerate of a list or a tuple -/
def iEnumS (wa : Ew) : Iw := fun ρ Q Qx => iEnumD wa ρ Q Qx ∨ iEnumT wa ρ Q Qx
theorem di_enumS (h : DE X W e wa) (hg : Gl X "enumerate") (hm : X.mg "enumerate" = none) (hs : starEach [e] X.env = [(false, eval e X.env)] := by rfl) : DI X W (.Tuple elts kk tpos) (.Call (.Name "enumerate" p) [e] [] pos) (iEnumS wa) := di_either (di_enum h hg hm hs) (di_enumT h hg hm hs)
theorem enum_seq {ρ : Env} {Q : List D → Env → Prop} {Qx : QX} {d : D} {l : List D} (hd : isSeq d l) (h : ∀ R : D → Env → Prop, R d ρ → wa ρ R Qx) (q : Q (enumD l) ρ) : iEnumS wa ρ Q Qx := by
  rcases hd with rfl | rfl
  · exact .inr (h _ q)
  · exact .inl (h _ q)
theorem enumD_get {l : List D} {i : Nat} {d : D} (h : (enumD l)[i]? = some d) : ∃ c, l[i]? = some c ∧ d = .tup [.int (i : Nat), c] := by
  unfold enumD at h
  rw [List.getElem?_mapIdx] at h
  cases h0 : l[i]? with
  | none => rw [h0] at h; cases h
  | some c => rw [h0] at h; cases h; exact ⟨c, rfl, rfl⟩
theorem enumD_len (l : List D) : (enumD l).length = l.length := by unfold enumD; rw [List.length_mapIdx]
/-- a name whose value is made known for good, with all that it owns -/
def eFrzA (i : Nat) : Ew := fun ρ Q _ => match ρ[i]? with
  | some (some d) => Q (frz d) (ρ.set i (some (frz d)))
  | _ => False
theorem de_frzA (i : Nat) {x : Str} {pos : Pos} (hN : X.N[i]? = some x := by rfl) (hv : Vis X.env.scope x := by first | exact Or.inl rfl | exact Or.inr (Or.inl rfl) | exact Or.inr (Or.inr rfl)) (hd : (x == ("__debug__" : Str)) = false := by decide) (hcd : (x == ("__classdict__" : Str)) = false := by decide) : DE X W (.Name x pos) (eFrzA i) := by
  refine ⟨_, pe_var hN hv hd hcd, fun σ H Z ρ Q Qx s w fx QQ q => ?_⟩
  unfold eFrzA at w
  cases h : ρ[i]? with
  | none => rw [h] at w; exact w.elim
  | some o => cases o with
    | none => rw [h] at w; exact w.elim
    | some d =>
      rw [h] at w
      obtain ⟨v, h1, r⟩ := s.rep i d h
      have ep := eo_out h
      have hF : ∀ a ∈ own d, Z a = none := fun a ha => (Rep.ownd d v r a ha).1
      have nd := List.nodup_append.mp (ep.nodup_iff.mp s.nd)
      have ei := eo_in (ρ := ρ) (i := i) (d := frz d) (lt_of_get h)
      rw [own_frz] at ei
      have hG : ∀ a ∈ own d, a ∈ eo ρ := fun a ha => ep.mem_iff.mpr (List.mem_append_left _ ha)
      have rf : Rep X.K (fz Z H (own d)) H (frz d) v := Rep.frz hF d v (fun a ha => ha) r
      have ndi : (eo (ρ.set i (some (frz d)))).Nodup := ei.nodup_iff.mpr nd.2.1
      refine ⟨v, h1, q v (frz d) _ (fz Z H (own d)) H w ⟨⟨fz_le s.sub, by simp [s.len], by simp [s.ln], fun j e he => ?_, ndi⟩, rf, nd_of_nil (own_frz d) ndi, ?_⟩⟩
      · by_cases hj : i = j
        · subst hj
          rw [getq_set_self (lt_of_get h)] at he; cases he
          exact ⟨v, h1, rf⟩
        · rw [getq_set_ne hj] at he
          obtain ⟨u, hu, ru⟩ := s.rep j e he
          refine ⟨u, hu, Rep.mono (fz_sub hF) e u (fun a _ o e => e) (fun a ha => ?_) ru⟩
          have : a ∈ eo (ρ.set i none) := eo_mem.mpr ⟨j, e, by rw [getq_set_ne hj]; exact he, ha⟩
          rw [fz_out fun hc => nd.2.2 a hc a this rfl]
          exact (Rep.ownd e u ru a ha).1
      · rw [own_frz]
        refine (step_fz hF hG).sub fun a ha => ?_
        have : a ∈ eo (ρ.set i none) := ei.mem_iff.mp ha
        exact ep.mem_iff.mpr (List.mem_append_right _ this)
theorem x_frzA {ρ : Env} {i : Nat} {d : D} {Q : D → Env → Prop} {Qx : QX} (h : ρ[i]? = some (some d)) (q : Q (frz d) (ρ.set i (some (frz d)))) : eFrzA i ρ Q Qx := by
  unfold eFrzA
  rw [h]
  exact q
end
end DL
set_option Elab.async false
set_option linter.all false
set_option maxRecDepth 100000
set_option maxHeartbeats 4000000
namespace DL
open PySem PySem.Spec PyProof.Rows L2
/-! ### sorted of fewer than 64 pairs of ints in [0, 1000000) -/
def prD (p : Int × Int) : D := .tup [.int p.1, .int p.2]
theorem owns_prD (l : List (Int × Int)) : owns (l.map prD) = [] := owns_map_nil (fun _ => rfl) l
theorem prD_inj {p q : Int × Int} (h : prD p = prD q) : p = q := by
  unfold prD at h
  injection h with h
  injection h with h1 h
  injection h with h2 h
  injection h1 with h1
  injection h2 with h2
  exact Prod.ext h1 h2
theorem prD_perm {K : PySem.W.Frag} {Z H : Hp} {xs ys : List V} (h : ys.Perm xs) : ∀ ps : List (Int × Int), Reps K Z H (ps.map prD) xs → ∃ ps' : List (Int × Int), ps'.Perm ps ∧ Reps K Z H (ps'.map prD) ys := by
  induction h with
  | nil => exact fun ps r => ⟨ps, List.Perm.refl _, r⟩
  | cons x _ ih =>
    intro ps r
    cases ps with
    | nil => exact nomatch (show _ = [] from r)
    | cons p ps =>
      obtain ⟨v, vr, e, r1, r2⟩ := r
      cases e
      obtain ⟨qs, h1, h2⟩ := ih ps r2
      exact ⟨p :: qs, h1.cons p, _, _, rfl, r1, h2⟩
  | swap x y l =>
    intro ps r
    cases ps with
    | nil => exact nomatch (show _ = [] from r)
    | cons p ps =>
      obtain ⟨v, vr, e, r1, r2⟩ := r
      cases e
      cases ps with
      | nil => exact nomatch (show _ = [] from r2)
      | cons q ps =>
        obtain ⟨v2, vr2, e2, r3, r4⟩ := r2
        cases e2
        exact ⟨q :: p :: ps, List.Perm.swap p q ps, _, _, rfl, r3, _, _, rfl, r1, r4⟩
  | trans _ _ ih1 ih2 =>
    intro ps r
    obtain ⟨qs, h1, h2⟩ := ih2 ps r
    obtain ⟨rs, h3, h4⟩ := ih1 qs h2
    exact ⟨rs, h3.trans h1, h4⟩
theorem prD_tupI {K : PySem.W.Frag} {Z H : Hp} {p : Int × Int} {v : V} (s : Sub Z H) (r : Rep K Z H (prD p) v) : TupI K H v [p.1, p.2] := by
  obtain ⟨_, a, vs, e, hs, v1, vr, e1, r1, v2, vr2, e2, r2, r3⟩ := r
  subst e1 e2
  rw [show v1 = .int p.1 from r1, show v2 = .int p.2 from r2, show vr2 = [] from r3] at hs
  exact ⟨a, e, sub_t s hs⟩
/-- ascending -/
def Asc (ps : List (Int × Int)) : Prop := ps.Pairwise fun p q => p.1 * 1000000 + p.2 ≤ q.1 * 1000000 + q.2
theorem prD_asc {K : PySem.W.Frag} {Z H : Hp} (s : Sub Z H) : ∀ (ps : List (Int × Int)) (ys : List V), Reps K Z H (ps.map prD) ys → ys.Pairwise (fun x y => ∀ n m, TupI K H x n → TupI K H y m → TS.code 1000000 n ≤ TS.code 1000000 m) → Asc ps
  | [], _, _, _ => List.Pairwise.nil
  | p :: ps, ys, r, h => by
    obtain ⟨v, vr, rfl, r1, r2⟩ := r
    obtain ⟨h1, h2⟩ := List.pairwise_cons.mp h
    refine List.pairwise_cons.mpr ⟨fun q hq => ?_, prD_asc s ps vr r2 h2⟩
    have hm : ∀ (ps : List (Int × Int)) (vr : List V), Reps K Z H (ps.map prD) vr → q ∈ ps → ∃ y ∈ vr, Rep K Z H (prD q) y := by
      intro ps
      induction ps with
      | nil => exact fun _ _ hq => nomatch hq
      | cons p' ps ih =>
        rintro vr ⟨v, vr', rfl, r1, r2⟩ hq
        rcases List.mem_cons.mp hq with z | z
        · exact ⟨v, List.mem_cons_self .., z ▸ r1⟩
        · obtain ⟨y, hy, ry⟩ := ih vr' r2 z
          exact ⟨y, List.mem_cons_of_mem _ hy, ry⟩
    obtain ⟨y, hy, ry⟩ := hm ps vr r2 hq
    have := h1 y hy _ _ (prD_tupI s r1) (prD_tupI s ry)
    simp only [TS.code] at this
    simp at this
    omega
theorem prD_each {K : PySem.W.Frag} {Z H : Hp} (s : Sub Z H) {ps : List (Int × Int)} {xs : List V} (r : Reps K Z H (ps.map prD) xs) (hb : ∀ p ∈ ps, 0 ≤ p.1 ∧ p.1 < 1000000 ∧ 0 ≤ p.2 ∧ p.2 < 1000000) : ∀ x ∈ xs, ∃ ns, TupI K H x ns ∧ ns.length = 2 ∧ TS.Bd 1000000 ns := by
  induction ps generalizing xs with
  | nil => rw [show xs = [] from r]; exact fun x hx => nomatch hx
  | cons p ps ih =>
    obtain ⟨v, vr, rfl, r1, r2⟩ := r
    intro x hx
    rcases List.mem_cons.mp hx with z | z
    · have b := hb p (List.mem_cons_self ..)
      refine ⟨[p.1, p.2], z ▸ prD_tupI s r1, rfl, fun m hm => ?_⟩
      rcases List.mem_cons.mp hm with z | z
      · rw [z]; exact ⟨b.1, b.2.1⟩
      · rw [List.mem_singleton.mp z]; exact ⟨b.2.2.1, b.2.2.2⟩
    · exact ih r2 (fun q hq => hb q (List.mem_cons_of_mem _ hq)) x z
def eSort2 (ws : Aw) : Ew := fun ρ Q Qx => ws ρ (fun as ρ1 => match valsOf as with
  | some [.lst m l] => owns l = [] ∧ m = none ∧ ∃ ps : List (Int × Int), l = ps.map prD ∧ ps.length < 64 ∧ (∀ p ∈ ps, 0 ≤ p.1 ∧ p.1 < 1000000 ∧ 0 ≤ p.2 ∧ p.2 < 1000000) ∧
    ∀ (ps' : List (Int × Int)) p, ps'.Perm ps → Asc ps' → Q (.lst (some p) (ps'.map prD)) ρ1
  | _ => False) Qx
section
variable {X : Cx} {W : WX} {e : Expr} {es : List Expr} {ws : Aw} {pos : Pos}
theorem de_sort2 {p : Pos} (hg : Gl X "sorted") (hm : X.mg "sorted" = none) (ha : DA X W (e :: es) ws)
    (he : starEach (e :: es) X.env = (false, eval e X.env) :: starEach es X.env := by rfl) (hpl : (backTo pos (starEach es X.env)).any (·.1) = false := by rfl) : DE X W (.Call (.Name "sorted" p) (e :: es) [] pos) (eSort2 ws) := by
  obtain ⟨t, pa, ra⟩ := ha
  refine ⟨_, pe_callB (cr_sortT (d := 2) (B := 1000000) (by decide)) hg hm (by decide +kernel) pa (by decide) (by decide) he hpl, fun σ H Z ρ Q Qx s w fx QQ q => ?_⟩
  refine ra σ H Z ρ _ Qx s w fx _ fun vs as ρ1 Z1 H1 wx o => ?_
  cases h : valsOf as with
  | none => simp only [h] at wx
  | some ds =>
    simp only [h] at wx
    obtain ⟨rs, ow⟩ := valsOf_rep h o.rep
    match ds, wx, rs, ow with
    | [.lst m l], ⟨nl, hm, ps, hl, h64, hb, wx⟩, rs, ow =>
      subst hm hl
      obtain ⟨v, vr, e, r1, r2⟩ := rs
      obtain ⟨_, a, xs, ev, hz, hr⟩ := r1
      have st : Step Z H (eo ρ) Z1 H1 (eo ρ1) := o.step.sub fun a ha => List.mem_append_right _ ha
      refine ⟨a, xs, by rw [e, ev, show vr = [] from r2], SqL.of (o.st.sub a _ hz), by rw [hr.length, List.length_map]; exact h64, prD_each o.st.sub hr hb, fun ys p hp hy hn => ?_⟩
      obtain ⟨ps', h1, h2⟩ := prD_perm hp ps hr
      have ha := prD_asc o.st.sub ps' ys h2 hy
      exact q _ _ ρ1 _ _ (wx ps' p h1 ha) ((out_new o.st hn h2 (owns_prD ps')).pre st)
end
end DL
set_option Elab.async false
set_option linter.all false
set_option maxRecDepth 100000
set_option maxHeartbeats 4000000
namespace DL
open PySem PySem.Spec PyProof.Rows L2
/-! ### xs[i], ys[j] = a pair -/
def gIx (wl : Lw) (wp : Pw) (y : D) (ρ : Env) (R : Env → Prop) : Prop := own y = [] ∧ wl ρ fun p d => wp ρ fun j => match d, j with
  | .lst (some a) l, .int i => (match ixN l.length i with
    | some k => R (setP ρ p (.lst (some a) (l.set k y)))
    | none => False)
  | _, _ => False
section
variable {X : Cx} {W : WX} {o i o2 i2 e : Expr} {pos tpos tpos2 tp : Pos} {wl wl2 : Lw} {wp wp2 : Pw} {we : Ew}
theorem owns_set_nil {l : List D} {k : Nat} {y : D} (h : own y = []) {a : Addr} (ha : a ∈ owns (l.set k y)) : a ∈ owns l := by
  rcases owns_set_mem ha with z | z
  · exact z
  · rw [h] at z; exact nomatch z
theorem gix_run (ho : DPath X o wl) (hi : DP X i wp)
    (hpg : ∀ {to ti : TE} {t : TSet}, PE X o to → PE X i ti → PSet X t → PG X (.Subscript o i tpos) (gSub to ti t)) :
    ∃ tg, PG X (.Subscript o i tpos) tg ∧ ∀ σ H Z ρ y u R, St X.K X.N.length Z H σ ρ → Rep X.K Z H y u → gIx wl wp y ρ R →
      ∀ QQ : L2.St → Hp → Prop, (∀ ρ2 H2, R ρ2 → St X.K X.N.length Z H2 σ ρ2 → Step Z H (eo ρ) Z H2 (eo ρ2) → (∀ z w, own z = [] → Rep X.K Z H z w → Rep X.K Z H2 z w) → QQ σ H2) → tg u σ H QQ := by
  obtain ⟨to, po', ro⟩ := ho
  obtain ⟨ti, pi', ri⟩ := hi
  refine ⟨_, hpg po' pi' set_list, fun σ H Z ρ y u R s ry w QQ q => ?_⟩
  obtain ⟨oy, w⟩ := w
  refine ro σ H Z ρ _ s w _ fun v p d wd hg rd => ?_
  refine ri σ H Z ρ _ s wd _ fun x j wj rj => ?_
  cases d with
  | lst m l => cases m with
    | none => cases j <;> exact wj.elim
    | some a => cases j with
      | int ii =>
        cases hk : ixN l.length ii with
        | none => simp only [hk] at wj
        | some k =>
          simp only [hk] at wj
          obtain ⟨ev, _⟩ := rd
          obtain ⟨za1, ⟨vs, hv, hr⟩, na1, na2, pm, re'⟩ := s.relist hg
          have hkl : k < l.length := (ixN_seq hk).2.1
          have hbin : a ∈ eo ρ := pm.mem_iff.mpr (List.mem_cons_self ..)
          have nby : a ∉ own y := by rw [oy]; exact fun z => nomatch z
          have nn := pm.nodup_iff.mp s.nd
          have nn' : (a :: (owns l ++ eo (setP ρ p (lent a)))).Nodup := nn
          have nd2 : (a :: owns (l.set k y) ++ eo (setP ρ p (lent a))).Nodup := by
            show (a :: (owns (l.set k y) ++ eo (setP ρ p (lent a)))).Nodup
            refine List.nodup_cons.mpr ⟨fun hc => ?_, owns_set_nodup hkl ?_⟩
            · rcases List.mem_append.mp hc with z | z
              · exact na1 (owns_set_nil oy z)
              · exact na2 z
            · rw [oy]; exact (List.nodup_cons.mp nn').2
          obtain ⟨s2, pm2⟩ := re' (l.set k y) (vs.set k u) ((hr.upd_out na1).set (ry.upd_out nby)) nd2
          refine ⟨a, vs, ii, k, ev, rj, hv, by rw [hr.length]; exact hk, ?_⟩
          refine q _ _ wj s2 (step_upd hbin fun c hc => .inl ?_) fun z w oz rz => rz.upd_out (by rw [oz]; exact fun z => nomatch z)
          have hm := pm2.mem_iff.mp hc
          simp only [List.cons_append, List.mem_cons, List.mem_append] at hm
          rcases hm with z | z | z
          · rw [z]; exact hbin
          · exact pm.mem_iff.mpr (List.mem_append_left _ (List.mem_cons_of_mem _ (owns_set_nil oy z)))
          · exact pm.mem_iff.mpr (List.mem_append_right _ z)
      | _ => exact wj.elim
  | _ => cases j <;> exact wj.elim
def sSwap (we : Ew) (wl : Lw) (wp : Pw) (wl2 : Lw) (wp2 : Pw) : Sw := fun D ρ => we ρ (fun t ρ1 => match t with
  | .tup [x, y] => gIx wl wp x ρ1 fun ρ2 => gIx wl2 wp2 y ρ2 D.nx
  | _ => False) D.xx
theorem ds_swap {kk : Nat} (hc : X.calm = true) (he : DE X W e we) (ho : DPath X o wl) (hi : DP X i wp) (ho2 : DPath X o2 wl2) (hi2 : DP X i2 wp2)
    (hpg : ∀ {to ti : TE} {t : TSet}, PE X o to → PE X i ti → PSet X t → PG X (.Subscript o i tpos) (gSub to ti t))
    (hpg2 : ∀ {to ti : TE} {t : TSet}, PE X o2 to → PE X i2 ti → PSet X t → PG X (.Subscript o2 i2 tpos2) (gSub to ti t))
    (hs : swapsWithSole [.Tuple [.Subscript o i tpos, .Subscript o2 i2 tpos2] kk tp] e pos.line X.env = pure false := by rfl)
    (hw : swappedStores [.Tuple [.Subscript o i tpos, .Subscript o2 i2 tpos2] kk tp] e X.env = pure none := by rfl)
    (h1 : (assignEach [.Tuple [.Subscript o i tpos, .Subscript o2 i2 tpos2] kk tp] X.env).map (·.2) = [assign (.Tuple [.Subscript o i tpos, .Subscript o2 i2 tpos2] kk tp) X.env] := by rfl)
    (hn : (assignEach [.Subscript o i tpos, .Subscript o2 i2 tpos2] X.env).length = 2 := by rfl) (hst : (assignEach [.Subscript o i tpos, .Subscript o2 i2 tpos2] X.env).findIdx? (·.1) = none := by rfl)
    (ha1 : (assignEach [.Subscript o i tpos, .Subscript o2 i2 tpos2] X.env).map (·.2) = assign (.Subscript o i tpos) X.env :: (assignEach [.Subscript o2 i2 tpos2] X.env).map (·.2) := by rfl)
    (ha2 : (assignEach [.Subscript o2 i2 tpos2] X.env).map (·.2) = assign (.Subscript o2 i2 tpos2) X.env :: (assignEach [] X.env).map (·.2) := by rfl) :
    DS X W (.Assign [.Tuple [.Subscript o i tpos, .Subscript o2 i2 tpos2] kk tp] e pos) (sSwap we wl wp wl2 wp2) := by
  obtain ⟨te, pe', re⟩ := he
  obtain ⟨t1, p1, r1⟩ := gix_run ho hi hpg
  obtain ⟨t2, p2, r2⟩ := gix_run ho2 hi2 hpg2
  refine ⟨_, ps_asg pe' (pg_tup hc (pgs_cons p1 (pgs_cons p2 pgs_nil ha2) ha1) hn hst) hs hw h1, fun σ H Z ρ D DD s w f => ?_⟩
  refine re σ H Z ρ _ _ s w (f.xx σ) _ fun u y ρ1 Z1 H1 w1 o1 => ?_
  match y, w1, o1 with
  | .tup [x, y], w1, o1 =>
    obtain ⟨nt, a, vs, e, hs, hr⟩ := o1.rep
    obtain ⟨v, vr, e1, rx, hr⟩ := hr
    obtain ⟨v2, vr2, e2, ry, hr⟩ := hr
    subst e1 e2
    rw [show vr2 = [] from hr] at hs
    have oy : own y = [] := by
      have := List.append_eq_nil_iff.mp (show own x ++ (own y ++ []) = [] from nt)
      exact (List.append_eq_nil_iff.mp this.2).1
    refine ⟨a, [v, v2], e, sub_t o1.st.sub hs, rfl, v, [v2], rfl, r1 σ H1 Z1 ρ1 x v _ o1.st rx w1 _ fun ρ2 H2 w2 s2 st2 kp2 => ?_⟩
    refine ⟨v2, [], rfl, r2 σ H2 Z1 ρ2 y v2 _ s2 (kp2 y v2 oy ry) w2 _ fun ρ3 H3 w3 s3 st3 _ => ?_⟩
    refine ⟨rfl, f.nx σ ρ3 Z1 H3 w3 ⟨s3, ?_⟩⟩
    have o1b : Step Z H (eo ρ) Z1 H1 (eo ρ1) := o1.step.sub fun a ha => List.mem_append_right _ ha
    exact (o1b.trans st2).trans st3
end
end DL
set_option Elab.async false
set_option linter.all false
set_option maxRecDepth 100000
set_option maxHeartbeats 4000000
namespace DL
open PySem PySem.Spec PyProof.Rows L2
/-! ### tuples that the top of a module stores; list(range(a, b)) -/
theorem reps_fint {K : PySem.W.Frag} {Z H : Hp} {α : Type} (f : α → Int) : ∀ l : List α, Reps K Z H (l.map fun i => D.int (f i)) (l.map fun i => V.int (f i))
  | [] => rfl
  | i :: l => ⟨.int (f i), _, rfl, rfl, reps_fint f l⟩
section
variable {X : Cx} {W : WX} {a b : Expr} {wa wb : Pw}
/-- the ints of a tuple that the top stores -/
theorem rep_tupK {K : PySem.W.Frag} {a : Addr} {oc : Value} {od : Option Addr} {its : Array Value} {n : Nat} {sl : Array (Option Value)} {is : List Int} (hl : K.lookup a = some ⟨oc, od, .seq its n, sl⟩) (hc : oc = .type "tuple") (hz : its.size ≤ sizeLine) (hv : Vals (is.map V.int) its.toList) :
    ∀ Z H, Rep K Z H (.tup (is.map .int)) (.ref a) := fun Z H =>
  ⟨owns_map_nil (fun _ => rfl) is, a, is.map V.int, rfl, .inr ⟨_, its, n, hl, hc, rfl, hz, hv⟩, reps_fint (fun i => i) is⟩
def rgD (a b : Int) : List D := (List.range (b - a).toNat).map fun i => D.int (a + (i : Nat))
theorem owns_rgD (a b : Int) : owns (rgD a b) = [] := owns_map_nil (fun _ => rfl) _
def eListRg (wa wb : Pw) : Ew := fun ρ Q _ => wa ρ fun x => wb ρ fun y => match x, y with
  | .int i, .int j => RgOk i j ∧ ∀ p, Q (.lst (some p) (rgD i j)) ρ
  | _, _ => False
theorem de_listRg {p p2 pos pos2 : Pos} (hc : X.calm = true) (ha : DP X a wa) (hb : DP X b wb) (hg : Gl X "list") (hm : X.mg "list" = none) (hg2 : Gl X "range") (hm2 : X.mg "range" = none)
    (na : starEach [a, b] X.env = (false, eval a X.env) :: starEach [b] X.env := by rfl) (nb : starEach [b] X.env = (false, eval b X.env) :: starEach [] X.env := by rfl)
    (nh : ((backTo pos2 (starEach [b] X.env)).any fun x => x.1) = false := by rfl)
    (nc : starEach [.Call (.Name "range" p2) [a, b] [] pos2] X.env = (false, eval (.Call (.Name "range" p2) [a, b] [] pos2) X.env) :: starEach [] X.env := by rfl) :
    DE X W (.Call (.Name "list" p) [.Call (.Name "range" p2) [a, b] [] pos2] [] pos) (eListRg wa wb) := by
  obtain ⟨ta, pa, ra⟩ := ha
  obtain ⟨tb, pb, rb⟩ := hb
  refine ⟨_, pe_listRg hc hg hm (prg_2 hg2 hm2 pa pb na nb (hp := nh)) nc, fun σ H Z ρ Q Qx s w fx QQ q => ?_⟩
  refine ra σ H Z ρ _ s w _ fun u x wx rx => ?_
  refine rb σ H Z ρ _ s wx _ fun v y wy ry => ?_
  cases x with
  | int i => cases y with
    | int j => exact ⟨i, j, rx, ry, wy.1, fun p hp => q _ _ ρ Z _ (wy.2 p) (out_new s hp (reps_fint (fun k : Nat => i + (k : Int)) _) (owns_rgD i j))⟩
    | _ => exact wy.elim
  | _ => cases y <;> exact wy.elim
theorem e_listRg {wa wb : Pw} {ρ : Env} {Q : D → Env → Prop} {Qx : QX} {i j : Int} (ha : PV wa ρ (.int i)) (hb : PV wb ρ (.int j)) (ok : RgOk i j) (q : ∀ p, Q (.lst (some p) (rgD i j)) ρ) : eListRg wa wb ρ Q Qx := ha _ (hb _ ⟨ok, q⟩)
end
end DL
set_option Elab.async false
set_option linter.all false
set_option maxRecDepth 100000
set_option maxHeartbeats 4000000
namespace DL
open PySem PySem.Spec PyProof.Rows L2
/-! ### own errors: raise C(e); try: .. except C as n: return .. -/
/-- __init__ of an own error with one field -/
def spI (K : PySem.W.Frag) (C : Addr) (f : Str) : Sp := fun vs H Q _ => ∃ a y, vs = [.ref a, y] ∧ OexC K C ∧ PySem.W.findIn K (.ref C) f = some none ∧ H a = some (exo a C none) ∧ ∀ dx, H dx = none → dx ≠ a → Q .non (upd (upd H dx (exd dx [(f, y)])) a (exo a C (some dx)))
theorem spI_run {K : PySem.W.Frag} {C : Addr} {f : Str} {vs : List V} {H : Hp} {Q : VK} {E : XK} {σ : L2.St} (h : spI K C f vs H Q E) (h0 : ∀ a y, vs = [.ref a, y] → σ[0]? = some (some (.ref a)) ∧ σ[1]? = some (some y)) :
    tOst K f (tVar 0) (tVar 1) { nx := fun _ H' => Q .non H', rt := Q } σ H := by
  obtain ⟨a, y, e, T, hno, ea, q⟩ := h
  obtain ⟨e0, e1⟩ := h0 a y e
  exact ⟨y, e1, .ref a, e0, a, C, rfl, T, hno, .inl ⟨ea, fun dx h1 h2 => q dx h1 h2⟩⟩
def sRaise (cls : Value) (ns : List Str) (ws : Aw) : Sw := fun D ρ => ws ρ (fun as ρ1 => match valsOf as with
  | some ds => owns ds = [] ∧ ds.length = ns.length ∧ D.xx ⟨cls, ns, ds⟩ ρ1
  | none => False) D.xx
section
variable {X : Cx} {W : WX} {e : Expr} {es : List Expr} {ws : Aw} {pos pos2 p : Pos}
theorem ds_raise1 {CX : CXT} {x f pn : Str} {C fI : Addr} {k : Nat} {fd : FuncData} (hc : X.calm = true) (tk : Takes X W) (T : OexC X.K C) (iC : PySem.W.findIn X.K (.ref C) "__init__" = some (some (.ref fI))) (tI : PySem.W.typeIn X.K (.ref fI) = some (.type "function"))
    (G : FnOk X.prog X.w X.K X.mg X.base CX k fI fd ["self", pn] (spI X.K C f)) (hr : Room (k + 1) X.A) (hb : Binds X.K fd ["self", pn] []) (hx : Passes CX X (fun _ _ _ => False)) (hg : Gl X x) (hm : X.mg x = some (.ref C)) (hno : PySem.W.findIn X.K (.ref C) f = some none)
    (ha : DA X W (e :: es) ws) (hdb : (x == ("__debug__" : Str)) = false := by decide) (he : starEach (e :: es) X.env = (false, eval e X.env) :: starEach es X.env := by rfl) (hpl : (backTo pos (starEach es X.env)).any (·.1) = false := by rfl) :
    DS X W (.Raise (some (.Call (.Name x p) (e :: es) [] pos)) none pos2) (sRaise (.ref C) [f] ws) := by
  obtain ⟨t, pa, ra⟩ := ha
  refine ⟨_, ps_raise hc tk (pmk_oex (dvs := []) T iC tI G hr hb .nil hx hg hm pa hdb he hpl), fun σ H Z ρ D DD s w fit => ?_⟩
  refine ra σ H Z ρ _ _ s w (fit.xx σ) _ fun vs as ρ1 Z1 H1 wx o => ?_
  cases h : valsOf as with
  | none => simp only [h] at wx
  | some ds =>
    simp only [h] at wx
    obtain ⟨n, l1, wx⟩ := wx
    obtain ⟨rs, ow⟩ := valsOf_rep h o.rep
    match ds, l1, rs, ow, n, wx with
    | [d], _, rs, ow, n, wx =>
      obtain ⟨y, vr, e1, r1, r2⟩ := rs
      have e2 : vr = [] := r2
      subst e2
      subst e1
      refine ⟨by simp, fun a ha => ⟨a, y, rfl, T, hno, upd_same, fun dx hd hne => ?_⟩⟩
      have hd1 : H1 dx = none := by rw [upd_ne hne] at hd; exact hd
      refine ⟨rfl, dx, [(f, y)], upd_same, by rw [upd_ne hne, upd_same], hd1, ?_⟩
      have eH : upd (del (upd (upd (upd H1 a (exo a C none)) dx (exd dx [(f, y)])) a (exo a C (some dx))) a) dx (.xd [(f, y)]) = upd H1 dx (.xd [(f, y)]) := by
        funext b
        by_cases hb1 : b = dx
        · rw [hb1, upd_same, upd_same]
        · rw [upd_ne hb1, upd_ne hb1]
          by_cases hb2 : b = a
          · rw [hb2, del_same, ha]
          · rw [del_ne hb2, upd_ne hb2, upd_ne hb1, upd_ne hb2]
      rw [eH]
      have st : Step Z H (eo ρ) Z1 H1 (eo ρ1) := o.step.sub fun a ha => List.mem_append_right _ ha
      have rs2 : Reps X.K Z1 H1 [d] [y] := ⟨y, [], rfl, r1, rfl⟩
      have zd : Z1 dx = none := by
        cases e : Z1 dx with
        | none => rfl
        | some u => rw [o.st.sub dx u e] at hd1; cases hd1
      exact fit.xx σ ⟨.ref C, [f], [d]⟩ _ _ ρ1 (upd Z1 dx (.xd [(f, y)])) (upd H1 dx (.xd [(f, y)])) wx ⟨o.st.known hd1, ⟨rfl, n, [(f, y)], upd_same, rfl, rs2.sh (upd_sub zd) n⟩, st.trans (step_known o.st.sub hd1)⟩
end
/-! ### what an except suite tells of the error -/
def fldD (f : Str) (x : XD) : Option D := (x.ns.zip x.fs).lookup f
theorem fld_rep {K : PySem.W.Frag} {Z H : Hp} {f : Str} {r : D} : ∀ (kvs : List (Str × V)) (fs : List D), Reps K Z H fs (kvs.map (·.2)) → owns fs = [] → ((kvs.map (·.1)).zip fs).lookup f = some r → ∃ v, kvs.lookup f = some v ∧ Rep K Z H r v ∧ own r = []
  | [], _, _, _, h => nomatch h
  | (k, v) :: kvs, fs, rs, n, h => by
    cases fs with
    | nil => exact nomatch h
    | cons d fs =>
      obtain ⟨u, vr, e, r1, r2⟩ := rs
      have nn := List.append_eq_nil_iff.mp (show own d ++ owns fs = [] from n)
      have e := List.cons.inj (show v :: kvs.map (·.2) = u :: vr from e)
      rw [← e.1] at r1
      rw [← e.2] at r2
      by_cases hk : (f == k) = true
      · have h1 : some d = some r := by
          rw [← h]
          show some d = List.lookup f ((k, d) :: (kvs.map (·.1)).zip fs)
          unfold List.lookup
          rw [hk]
        cases h1
        exact ⟨v, by unfold List.lookup; rw [hk], r1, nn.1⟩
      · have hk : (f == k) = false := by revert hk; cases (f == k) <;> simp
        have h1 : ((kvs.map (·.1)).zip fs).lookup f = some r := by
          rw [← h]
          show _ = List.lookup f ((k, d) :: (kvs.map (·.1)).zip fs)
          conv => rhs; unfold List.lookup
          rw [hk]
        obtain ⟨w, h2, h3⟩ := fld_rep kvs fs r2 nn.2 h1
        exact ⟨w, by unfold List.lookup; rw [hk]; exact h2, h3⟩
def XPt (X : Cx) (i : Nat) (C : Addr) (e : Expr) (g : XD → Option D) : Prop := ∃ t : Addr → Value → Option Addr → TE, ∀ a cls d, (∀ oe pn, Zc cls d oe → (∃ vs, oe.data = .fields vs) → PE (X.suite a ((a, oe) :: pn)) e (t a cls d)) ∧
  ∀ (σ : L2.St) (H Z : Hp) (x : XD) (r : D), Sub Z H → σ[i]? = some (some (.ref a)) → XRep X.K Z H x cls d → cls = .ref C → g x = some r → ∀ QQ : VK, (∀ v, Rep X.K Z H r v → own r = [] → QQ v H) → t a cls d σ H QQ
def XPs (X : Cx) (i : Nat) (C : Addr) (es : List Expr) (g : XD → Option (List D)) : Prop := ∃ t : Addr → Value → Option Addr → TA, ∀ a cls d, (∀ oe pn, Zc cls d oe → (∃ vs, oe.data = .fields vs) → PA (X.suite a ((a, oe) :: pn)) es (t a cls d)) ∧
  ∀ (σ : L2.St) (H Z : Hp) (x : XD) (r : List D), Sub Z H → σ[i]? = some (some (.ref a)) → XRep X.K Z H x cls d → cls = .ref C → g x = some r → ∀ QQ : List V → Hp → Prop, (∀ vs, Reps X.K Z H r vs → owns r = [] → QQ vs H) → t a cls d σ H QQ
section
variable {X : Cx} {i : Nat} {C : Addr} {e : Expr} {es : List Expr}
theorem xp_c {v : V} {r : D} (hp : ∀ (X' : Cx), PE X' e (tC v)) (hr : ∀ Z H, Rep X.K Z H r v) (ho : own r = []) : XPt X i C e (fun _ => some r) :=
  ⟨fun _ _ _ => tC v, fun a cls d => ⟨fun oe pn _ _ => hp _, fun σ H Z x r' s h1 h2 h3 h4 QQ q => by cases h4; exact q v (hr Z H) ho⟩⟩
theorem xp_fld {f n : Str} {p pos : Pos} (T : XfC X.K C) (hno : PySem.W.findIn X.K (.ref C) f = some none) (hN : X.N[i]? = some n) (hv : Vis X.env.scope n) (hd : (n == ("__debug__" : Str)) = false := by decide) (hcd : (n == ("__classdict__" : Str)) = false := by decide)
    (hb : attributeBase (.Name n p) f X.env (eval (.Name n p) X.env) = eval (.Name n p) X.env := by rfl) : XPt X i C (.Attribute (.Name n p) f pos) (fldD f) :=
  ⟨fun a cls d => tXf a cls d C f (tVar i), fun a cls d => ⟨fun oe pn hz hf => pe_xf T hno hz hf (pe_var hN hv hd hcd) hb, fun σ H Z x r s h1 h2 h3 h4 QQ q => by
    obtain ⟨ec, on, h2⟩ := h2
    refine ⟨.ref a, h1, rfl, h3, ?_⟩
    unfold fldD at h4
    cases d with
    | none =>
      rw [h2.1] at h4
      exact nomatch h4
    | some dd =>
      obtain ⟨kvs, hz, hk, hr⟩ := h2
      rw [← hk] at h4
      obtain ⟨v, l, rv, ov⟩ := fld_rep kvs x.fs hr on h4
      exact ⟨dd, kvs, v, rfl, s dd _ hz, l, q v rv ov⟩⟩⟩
theorem xps_nil : XPs X i C [] (fun _ => some []) := ⟨fun _ _ _ => tNil, fun a cls d => ⟨fun _ _ _ _ => pa_nil, fun σ H Z x r s h1 h2 h3 h4 QQ q => by cases h4; exact q [] rfl rfl⟩⟩
def consG (g : XD → Option D) (gs : XD → Option (List D)) : XD → Option (List D) := fun x => match g x, gs x with
  | some d, some ds => some (d :: ds)
  | _, _ => none
theorem xps_cons {g : XD → Option D} {gs : XD → Option (List D)} (h1 : XPt X i C e g) (h2 : XPs X i C es gs) (hs : starEach (e :: es) X.env = (false, eval e X.env) :: starEach es X.env := by rfl) : XPs X i C (e :: es) (consG g gs) := by
  obtain ⟨t1, p1⟩ := h1
  obtain ⟨t2, p2⟩ := h2
  refine ⟨fun a cls d => tCons (t1 a cls d) (t2 a cls d), fun a cls d => ⟨fun oe pn hz hf => pa_cons ((p1 a cls d).1 oe pn hz hf) ((p2 a cls d).1 oe pn hz hf) hs, fun σ H Z x r s h1 h2 h3 h4 QQ q => ?_⟩⟩
  unfold consG at h4
  cases e1 : g x with
  | none => rw [e1] at h4; exact nomatch h4
  | some d1 =>
    cases e2 : gs x with
    | none => rw [e1, e2] at h4; exact nomatch h4
    | some ds =>
      rw [e1, e2] at h4
      cases h4
      refine (p1 a cls d).2 σ H Z x d1 s h1 h2 h3 e1 _ fun v rv ov => ?_
      refine (p2 a cls d).2 σ H Z x ds s h1 h2 h3 e2 _ fun vs rvs ovs => ?_
      exact q (v :: vs) ⟨v, vs, rfl, rv, rvs⟩ (by show own d1 ++ owns ds = []; rw [ov, ovs]; rfl)
end
/-- an own error is what its own name tells -/
theorem exm_own {K : PySem.W.Frag} {C : Addr} (eC : PySem.W.subIn K (.ref C) (.type "BaseException") = some true) (isC : PySem.W.isClsIn K C = true) (tC : PySem.W.typeIn K (.ref C) = some (.type "type")) (sC : PySem.W.subIn K (.ref C) (.ref C) = some true) : PySem.W.exmOne K (.ref C) (.ref C) = some true := by
  have c : (PySem.W.clsIn K C).isSome = true := isC
  simp only [PySem.W.exmOne, PySem.W.kitCls, eC, tC, sC, c]
  rfl
/-- try: body / except C as n: return (..) -/
def sTryRet (i : Nat) (C : Addr) (wb : Sw) (g : XD → Option (List D)) : Sw := fun D ρ => wb { D with xx := fun x ρ1 => x.cls = .ref C ∧ ∃ ds, g x = some ds ∧ ds.length ≤ sizeLine ∧ ∀ a, D.rt (.tup ds) (ρ1.set i (some (.cv (.ref a)))) } ρ
section
variable {X : Cx} {W : WX} {i : Nat} {C : Addr} {es : List Expr} {body : List Stmt} {wb : Sw} {g : XD → Option (List D)} {x n : Str} {np pos pos' rp tp : Pos} {kk : Nat}
theorem ds_try_ret (hs : X.stack = X.env :: X.outer) (hf : X.env.frame = some X.env.locals) (hN : X.N.Nodup) (hi : X.N[i]? = some n) (hln : X.env.kindOf n = some .local) (hc : Names X x (.ref C)) (tk : Takes X W)
    (hte : PySem.W.exmOne X.K (.ref C) (.ref C) = some true)
    (hb : ∀ (W' : WX) (pn : List (Addr × Obj)) (xe : Value → Shared → Prop), Takes (X.tr pn xe) W' → PassesOwn (model X.prog X.w) X.A X.env xe → DSs (X.tr pn xe) W' body wb)
    (hx : XPs X i C es g) : DS X W (.Try body [.ExceptHandler (some (.Name x np)) (some n) [.Return (some (.Tuple es kk tp)) rp] pos'] [] [] pos) (sTryRet i C wb g) := by
  obtain ⟨t, px⟩ := hx
  let tb : WX → TS := fun W' D σ H => ∀ pn xe (tk : Takes (X.tr pn xe) W') (po : PassesOwn (model X.prog X.w) X.A X.env xe), Classical.choose (hb W' pn xe tk po).run D σ H
  refine ⟨_, ps_try_as (tb := tb) (ts := fun a cls d => tRet (tTup (t a cls d))) (suite := []) hs hf hN hi hln hc tk (fun W' pn xe tk po => ⟨fun pins s σ H D I h => (Classical.choose_spec (hb W' pn xe tk po).run).1.run pins s σ H D I (h pn xe tk po)⟩)
    (fun a oe cls d pn hz hfl => pss_one (ps_ret (pe_tup ((px a cls d).1 oe pn hz hfl)))), fun σ H Z ρ D DD s w f pn xe tk po => ?_⟩
  refine (Classical.choose_spec (hb _ pn xe tk po).run).2 σ H Z ρ _ DD s w ⟨f.nx, f.bk, f.ct, f.rt, fun σ' xd cls dd ρ1 Z1 H1 wx o => ?_⟩
  obtain ⟨ec, ds, hg, hl, hrt⟩ := wx
  have ec2 : cls = .ref C := o.rep.1.symm.trans ec
  refine ⟨true, by rw [ec2]; exact hte, fun _ a ha => ?_, fun h => nomatch h⟩
  have hil : i < ρ1.length := by rw [o.st.ln]; exact lt_of_get hi
  have hil2 : i < σ'.length := by rw [o.st.len]; exact hil
  have s2 : St X.K X.N.length Z1 H1 (σ'.set i (some (.ref a))) (ρ1.set i (some (.cv (.ref a)))) := o.st.store (d := .cv (.ref a)) (v := .ref a) rfl o.st.nd hil
  refine (px a cls dd).2 _ H1 Z1 xd ds o.st.sub (List.getElem?_set_self hil2) o.rep ec2 hg _ fun vs rvs ovs => ⟨by rw [rvs.length]; exact hl, fun p hp => ?_⟩
  have ot := out_tup s2 hp rvs ovs
  exact f.rt _ _ _ _ _ _ (hrt a) ⟨ot.st, ot.rep, ot.nd, (o.step.sub fun b hb' => by
    rcases List.mem_append.mp (eo_store_sub (d := .cv (.ref a)) hil hb') with z | z
    · exact nomatch (show b ∈ ([] : List Addr) from z)
    · exact z).trans ot.step⟩
end
end DL
set_option Elab.async false
set_option linter.all false
set_option maxRecDepth 100000
namespace DL
open PySem PySem.Spec PyProof.Rows L2
/-! ### a word evaluated step by step: the mark Ev stands where the next step is -/
def Ev (p : Prop) : Prop := p
theorem evI {p : Prop} (h : Ev p) : p := h
theorem evE {p : Prop} (h : p) : Ev p := h
def IfB (b : Bool) (A B : Prop) : Prop := if b = true then A else B
def SetK (k : Nat) (o : Option D) (ρ : Env) (Q : Env → Prop) : Prop := Q (ρ.set k o)
def OwQ (d : D) (Q : Prop) : Prop := own d = [] ∧ Q
def OwsQ (ds : List D) (Q : Prop) : Prop := owns ds = [] ∧ Q
def SzQ (n : Nat) (Q : Prop) : Prop := n ≤ sizeLine ∧ Q
def KeepQ (d : D) (Q : D → Prop) : Prop := Q (fr1 d)
def BQ (Q : Bool → Env → Prop) (ρ : Env) : D → Prop := fun z => match z with
  | .bl k => Q k ρ
  | _ => False
def AtQ (l : List D) (i : Int) (Q : D → Prop) : Prop := match atI l i with
  | some d => Q d
  | none => False
def IxQ (x y : D) (Q : D → Prop) : Prop := match x, y with
  | .tup l, .int i => (match atI l i with
    | some d => Q d
    | none => False)
  | .lst _ l, .int i => (match atI l i with
    | some d => Q d
    | none => False)
  | .lsk l, .int i => (match atI l i with
    | some d => Q d
    | none => False)
  | .str z, .int i => z.length ≤ sizeLine ∧ (match atI z.cps.toList i with
    | some c => Q (.str ⟨#[c]⟩)
    | none => False)
  | _, _ => False
def LenQ (x : D) (Q : D → Prop) : Prop := match x with
  | .str z => z.length ≤ sizeLine ∧ Q (.int z.length)
  | x => (match lenD x with
    | some n => Q (.int n)
    | none => False)
def NegQ (x : D) (Q : D → Prop) : Prop := match x with
  | .int i => Q (.int (-i))
  | _ => False
def TruQ (x : D) (Q : Bool → Prop) : Prop := match truD x with
  | some k => Q k
  | none => False
def VsQ (as : List Arg) (Q : List D → Prop) : Prop := match valsOf as with
  | some ds => Q ds
  | none => False
def SeqQ (d : D) (Q : List D → Prop) : Prop := match seqD d with
  | some l => owns l = [] ∧ Q l
  | none => False
def WalkQ (d : D) (Q : List D → Prop) : Prop := match d with
  | .tup l => Q l
  | .lst none l => Q l
  | .lsk l => Q l
  | _ => False
def EnumQ (d : D) (Q : List D → Prop) : Prop := match d with
  | .lst none l => Q (enumD l)
  | .lsk l => Q (enumD l)
  | _ => False
def CK (dsp : DSp) (Q : D → Env → Prop) (Qx : QX) (as : List Arg) (ds : List D) (ρ2 : Env) : Prop := dsp ds (fun d ds' => giveA as ds' ρ2 fun ρ3 => Q d ρ3) (fun x ds' => giveA as ds' ρ2 fun ρ3 => Qx x ρ3)
def ForS (g : Gw) (wb : Sw) (D0 : DEnds) (l : List D) (ρ : Env) : Prop := ∃ Inv : Nat → Env → Prop, Inv 0 ρ ∧
  (∀ i d ρ2, l[i]? = some d → Inv i ρ2 → g d ρ2 fun ρ3 => wb { D0 with nx := Inv (i + 1), ct := Inv (i + 1), bk := D0.nx } ρ3) ∧ (∀ ρ2, Inv l.length ρ2 → D0.nx ρ2)
def WhS (wt : Tw) (wb : Sw) (D0 : DEnds) (ρ : Env) : Prop := sWhile wt wb D0 ρ
def WpQ (ρ : Env) (vs : List Nat) (f : Env → Prop) : Prop := f (wipeE ρ vs)
def LcS (g : Gw) (wt : Tw) (we : Ew) (vs : List Nat) (Q : D → Env → Prop) (l : List D) (ρ1 : Env) : Prop := ∃ Inv : Nat → List D → Env → Prop, Inv 0 [] ρ1 ∧
  (∀ i d acc ρ2, l[i]? = some d → Inv i acc ρ2 → LcStep g wt we vs Inv i d acc ρ2) ∧ (∀ acc ρ2, Inv l.length acc ρ2 → ∀ p, Q (.lst (some p) acc) ρ2)
def AppQ (we : Ew) (Q : D → Env → Prop) (Qx : QX) (ρ : Env) (p : Path) (d : D) : Prop := match d with
  | .lst (some a) _ => we ρ (fun y ρ1 => match getP ρ1 p with
    | some (.lst (some b) l) => b = a ∧ l.length < sizeLine ∧ Q .non (setP ρ1 p (.lst (some b) (l ++ [y])))
    | _ => False) Qx
  | _ => False
def AppQ2 (p : Path) (a : Addr) (Q : D → Env → Prop) (y : D) (ρ1 : Env) : Prop := match getP ρ1 p with
    | some (.lst (some b) l) => b = a ∧ l.length < sizeLine ∧ Q .non (setP ρ1 p (.lst (some b) (l ++ [y])))
    | _ => False
def SetIxQ (y : D) (ρ1 : Env) (p : Path) (d : D) (nx : Env → Prop) (j : D) : Prop := match d, j with
  | .lst (some a) l, .int i => (match ixN l.length i with
    | some k => nx (setP ρ1 p (.lst (some a) (l.set k y)))
    | none => False)
  | _, _ => False
def SetIxN (k : Option Nat) (y : D) (a : Addr) (l : List D) (ρ1 : Env) (p : Path) (nx : Env → Prop) : Prop := match k with
    | some k => nx (setP ρ1 p (.lst (some a) (l.set k y)))
    | none => False
def PopQ (Q : D → Env → Prop) (ρ : Env) (p : Path) (d : D) : Prop := match d with
  | .lst (some a) l => owns l = [] ∧ ∃ y, l.getLast? = some y ∧ Q y (setP ρ p (.lst (some a) l.dropLast))
  | _ => False
def AugQ (x : Int) (k : Nat) (g : Int → Int → Int) (nx : Env → Prop) (d : D) (ρ' : Env) : Prop := match d with
    | .int y => nx (ρ'.set k (some (.int (g x y))))
    | _ => False
def AugSQ (x : Str) (k : Nat) (nx : Env → Prop) (d : D) (ρ' : Env) : Prop := match d with
    | .str y => x.length + y.length ≤ sizeLine ∧ nx (ρ'.set k (some (.str (x ++ y))))
    | _ => False
def AndQ (wb : Ew) (Q : D → Env → Prop) (Qx : QX) (d : D) (ρ1 : Env) : Prop := match d with
  | .bl k => IfB k (wb ρ1 Q Qx) (Q (.bl false) ρ1)
  | _ => False
def OrQ (wb : Ew) (Q : D → Env → Prop) (Qx : QX) (d : D) (ρ1 : Env) : Prop := match d with
  | .bl k => IfB k (Q (.bl true) ρ1) (wb ρ1 Q Qx)
  | _ => False
def NotQ (Q : D → Env → Prop) (d : D) (ρ1 : Env) : Prop := match d with
  | .bl k => Q (.bl (!k)) ρ1
  | _ => False
def CatQ (wb : Ew) (Q : D → Env → Prop) (Qx : QX) (x : D) (ρ1 : Env) : Prop := match x with
  | .lst _ l => owns l = [] ∧ wb ρ1 (fun y ρ2 => match y with
    | .lst _ r => owns r = [] ∧ l.length + r.length ≤ sizeLine ∧ ∀ p, Q (.lst (some p) (l ++ r)) ρ2
    | _ => False) Qx
  | _ => False
def CatQ2 (l : List D) (Q : D → Env → Prop) (y : D) (ρ2 : Env) : Prop := match y with
    | .lst _ r => owns r = [] ∧ l.length + r.length ≤ sizeLine ∧ ∀ p, Q (.lst (some p) (l ++ r)) ρ2
    | _ => False
def CatTQ (wb : Ew) (Q : D → Env → Prop) (Qx : QX) (x : D) (ρ1 : Env) : Prop := match x with
  | .tup l => owns l = [] ∧ wb ρ1 (fun y ρ2 => match y with
    | .tup r => l.length + r.length ≤ sizeLine ∧ Q (.tup (l ++ r)) ρ2
    | _ => False) Qx
  | _ => False
def CatTQ2 (l : List D) (Q : D → Env → Prop) (y : D) (ρ2 : Env) : Prop := match y with
    | .tup r => l.length + r.length ≤ sizeLine ∧ Q (.tup (l ++ r)) ρ2
    | _ => False
def RepQ (wb : Ew) (Q : D → Env → Prop) (Qx : QX) (x : D) (ρ1 : Env) : Prop := match x with
  | .lst _ l => owns l = [] ∧ wb ρ1 (fun y ρ2 => match y with
    | .int k => -(2 ^ 63) ≤ k ∧ k < 2 ^ 63 ∧ l.length * k.toNat ≤ sizeLine ∧ ∀ p, Q (.lst (some p) (List.replicate k.toNat l).flatten) ρ2
    | _ => False) Qx
  | _ => False
def RepQ2 (l : List D) (Q : D → Env → Prop) (y : D) (ρ2 : Env) : Prop := match y with
    | .int k => -(2 ^ 63) ≤ k ∧ k < 2 ^ 63 ∧ l.length * k.toNat ≤ sizeLine ∧ ∀ p, Q (.lst (some p) (List.replicate k.toNat l).flatten) ρ2
    | _ => False
def TpQ (gs : List D → Env → (Env → Prop) → Prop) (k : Nat) (d : D) (ρ : Env) (Q : Env → Prop) : Prop := match d with
  | .tup l => l.length = k ∧ gs l ρ Q
  | _ => False
def SlcQ (lo hi : Option Pw) (Q : D → Env → Prop) (ρ : Env) (d : D) : Prop := match d with
  | .tup l => owns l = [] ∧ poW lo ρ fun i => poW hi ρ fun j => Q (.tup (cutD l i j)) ρ
  | .lst _ l => owns l = [] ∧ poW lo ρ fun i => poW hi ρ fun j => ∀ p, Q (.lst (some p) (cutD l i j)) ρ
  | .lsk l => owns l = [] ∧ poW lo ρ fun i => poW hi ρ fun j => ∀ p, Q (.lst (some p) (cutD l i j)) ρ
  | _ => False
def SlcEQ (lo hi : Option Pw) (Q : D → Env → Prop) (d : D) (ρ1 : Env) : Prop := match d with
  | .tup l => owns l = [] ∧ poW lo ρ1 fun i => poW hi ρ1 fun j => Q (.tup (cutD l i j)) ρ1
  | .lst none l => owns l = [] ∧ poW lo ρ1 fun i => poW hi ρ1 fun j => ∀ p, Q (.lst (some p) (cutD l i j)) ρ1
  | _ => False
def IQ (R : Option Int → Prop) (d : D) : Prop := match d with
    | .int i => R (some i)
    | _ => False
def RgQ1 (Q : List D → Env → Prop) (as : List Arg) (ρ' : Env) : Prop := match as with
  | [.val (.int j)] => Rg j ∧ Q (iseq 0 j.toNat) ρ'
  | _ => False
def RgQ2 (Q : List D → Env → Prop) (as : List Arg) (ρ' : Env) : Prop := match as with
  | [.val (.int i), .val (.int j)] => Rg i ∧ Rg j ∧ Q (iseq i (j - i).toNat) ρ'
  | _ => False
def ChQ (r' : RD) (wr : Pw) (y : D) (ρ : Env) (Q : Bool → Env → Prop) (z : D) : Prop := match z with
  | .bl k => IfB k (wr ρ fun u => r' y u (BQ Q ρ)) (Q false ρ)
  | _ => False
/-- a tuple, or a list that nobody owns -/
structure Sq (l : List D) where
  d : D
  ok : isSeq d l
/-- the pool of a law -/
structure PoolS (a : Addr) where
  d : D
  ok : Pool a d
def TryX (k : Nat) (C : Addr) (g : XD → Option (List D)) (rt : D → Env → Prop) (x : XD) (ρ1 : Env) : Prop := x.cls = .ref C ∧ ∃ ds, g x = some ds ∧ ds.length ≤ sizeLine ∧ ∀ a, rt (.tup ds) (ρ1.set k (some (.cv (.ref a))))
def LRg (x y : D) (R : D → Prop) : Prop := match x, y with
  | .int i, .int j => RgOk i j ∧ ∀ p, R (.lst (some p) (rgD i j))
  | _, _ => False
def LendA (m : Option Addr) (f : Addr → Prop) : Prop := match m with
  | some a => f a
  | none => False
def AdQ (m : Option Addr) (a : Addr) (A : Prop) : Prop := m = some a ∧ A
def TpI (d : D) (Q : List D → Prop) : Prop := match d with
  | .tup l => Q l
  | _ => False
def LsI (d : D) (Q : List D → Prop) : Prop := match d with
  | .lst none l => Q l
  | .lsk l => Q l
  | _ => False
def LnQ (ds : List D) (ns : List Str) (A : Prop) : Prop := ds.length = ns.length ∧ A
def ParQ (k m : Nat) (ds : List D) (ρ1 : Env) (nx : Env → Prop) : Prop := match ds with
  | [x, y] => owns [x, y] = [] ∧ nx ((ρ1.set k (some x)).set m (some y))
  | _ => False
theorem dec_i (i j : Int) : decide (V.int i = V.int j) = decide (i = j) := by
  rw [decide_eq_decide]; exact ⟨fun h => by injection h, fun h => by rw [h]⟩
theorem dec_s (i j : Str) : decide (V.str i = V.str j) = decide (i = j) := by
  rw [decide_eq_decide]; exact ⟨fun h => by injection h, fun h => by rw [h]⟩
theorem dec_b (i j : Bool) : decide (V.bl i = V.bl j) = decide (i = j) := by
  rw [decide_eq_decide]; exact ⟨fun h => by injection h, fun h => by rw [h]⟩
theorem enumS_gen {l : List D} {q : Sq l} {we : Ew} {ρ : Env} {QI : List D → Env → Prop} {Qx : QX} (hd : ∀ R : D → Env → Prop, we ρ R Qx = (own q.d = [] ∧ R q.d ρ)) : Ev (iEnumS we ρ QI Qx) = Ev (OwsQ l (QI (enumD l) ρ)) := by
  obtain ⟨d, h⟩ := q
  have e1 : iEnumD we ρ QI Qx = _ := hd _
  have e2 : iEnumT we ρ QI Qx = _ := hd _
  show (iEnumD we ρ QI Qx ∨ iEnumT we ρ QI Qx) = (owns l = [] ∧ QI (enumD l) ρ)
  rw [e1, e2]
  rcases h with rfl | rfl
  · exact propext ⟨fun h => h.elim (fun h => h.2.elim) fun h => ⟨h.1, h.2⟩, fun h => .inr ⟨h.1, h.2⟩⟩
  · exact propext ⟨fun h => h.elim (fun h => ⟨h.1, h.2⟩) fun h => h.2.elim, fun h => .inl ⟨h.1, h.2⟩⟩
section
variable {o0 o1 o2 o3 o4 o5 o6 o7 o8 o9 o10 o11 o12 o13 o14 o15 o16 o17 o18 o19 o20 o21 o22 o23 o24 o25 o26 o27 o28 o29 o30 oo : Option D}
variable {wa wb wp wq wr : Pw} {we wf : Ew} {wt wu : Tw} {ws : Aw} {wi : Iw} {wl : Lw} {g : Gw} {gs : List D → Env → (Env → Prop) → Prop} {ρ : Env} {x y z d e : D} {i j n : Int} {k m : Nat} {l r ds : List D} {as : List Arg} {Q : D → Env → Prop} {QB : Bool → Env → Prop} {QA : List Arg → Env → Prop} {QI : List D → Env → Prop} {QE : Env → Prop} {Qx : QX} {R : D → Prop} {RB : Bool → Prop} {RO : Option Int → Prop} {RL : List D → Prop} {RE : List D → Env → Prop} {D0 : DEnds} {w1 w2 : Sw} {dsp : DSp} {rd : RD} {rdl : List D → (D → Prop) → Prop} {gg : Int → Int → D} {g2 : Int → Int → Int} {C : Int → Int → Prop} {A B : Prop} {b : Bool} {p : Prop} {a : Addr} {ma : Option Addr} {s t : Str} {nx ct bk : Env → Prop} {rt : D → Env → Prop} {xx : QX} {is : List Int} {pt : Path} {lo hi : Option Pw} {vs : List Nat} {ff : Nat → D → D}
theorem ev_ev : Ev (Ev A) = Ev A := rfl
theorem ev_and : Ev (A ∧ B) = (A ∧ Ev B) := rfl
theorem ev_all : ∀ {α : Type} {f : α → Prop}, Ev (∀ x, f x) = (∀ x, Ev (f x)) := by intros; rfl
theorem ev_ifT : Ev (IfB true A B) = Ev A := by unfold IfB; rfl
theorem ev_ifF : Ev (IfB false A B) = Ev B := by unfold IfB; rfl
theorem ev_ifN : Ev (IfB (!b) A B) = Ev (IfB b B A) := by cases b <;> rfl
theorem ev_ow_int : Ev (OwQ (.int i) A) = Ev A := propext ⟨fun h => h.2, fun h => ⟨rfl, h⟩⟩
theorem ev_ow_bl : Ev (OwQ (.bl b) A) = Ev A := propext ⟨fun h => h.2, fun h => ⟨rfl, h⟩⟩
theorem ev_ow_non : Ev (OwQ .non A) = Ev A := propext ⟨fun h => h.2, fun h => ⟨rfl, h⟩⟩
theorem ev_ow_str : Ev (OwQ (.str s) A) = Ev A := propext ⟨fun h => h.2, fun h => ⟨rfl, h⟩⟩
theorem ev_ow_cv : ∀ {v : V}, Ev (OwQ (.cv v) A) = Ev A := propext ⟨fun h => h.2, fun h => ⟨rfl, h⟩⟩
theorem ev_ow_prD : ∀ {q : Int × Int}, Ev (OwQ (prD q) A) = Ev A := propext ⟨fun h => h.2, fun h => ⟨rfl, h⟩⟩
theorem ev_ow_tup : Ev (OwQ (.tup l) A) = Ev (OwsQ l A) := rfl
theorem ev_ow_lst : Ev (OwQ (.lst none l) A) = Ev (OwsQ l A) := rfl
theorem ev_ow_lsk : Ev (OwQ (.lsk l) A) = Ev (OwsQ l A) := rfl
theorem ev_ows_nil : Ev (OwsQ [] A) = Ev A := propext ⟨fun h => h.2, fun h => ⟨rfl, h⟩⟩
theorem ev_ows_cons : Ev (OwsQ (d :: l) A) = Ev (OwQ d (OwsQ l A)) := propext ⟨fun h => ⟨(List.append_eq_nil_iff.mp h.1).1, (List.append_eq_nil_iff.mp h.1).2, h.2⟩, fun h => ⟨by show own d ++ owns l = []; rw [h.1, h.2.1]; rfl, h.2.2⟩⟩
theorem ev_ows_app : Ev (OwsQ (l ++ r) A) = Ev (OwsQ l (OwsQ r A)) := propext ⟨fun h => by have e := h.1; rw [owns_append] at e; exact ⟨(List.append_eq_nil_iff.mp e).1, (List.append_eq_nil_iff.mp e).2, h.2⟩, fun h => ⟨by rw [owns_append, h.1, h.2.1]; rfl, h.2.2⟩⟩
theorem ev_ows_int : Ev (OwsQ (is.map .int) A) = Ev A := propext ⟨fun h => h.2, fun h => ⟨owns_ints is, h⟩⟩
theorem ev_ows_prD : ∀ {ps : List (Int × Int)}, Ev (OwsQ (ps.map prD) A) = Ev A := propext ⟨fun h => h.2, fun h => ⟨owns_prD _, h⟩⟩
theorem ev_sz0 : Ev (SzQ 0 A) = Ev A := propext ⟨fun h => h.2, fun h => ⟨szc, h⟩⟩
theorem ev_sz1 : Ev (SzQ 1 A) = Ev A := propext ⟨fun h => h.2, fun h => ⟨szc, h⟩⟩
theorem ev_sz2 : Ev (SzQ 2 A) = Ev A := propext ⟨fun h => h.2, fun h => ⟨szc, h⟩⟩
theorem ev_sz3 : Ev (SzQ 3 A) = Ev A := propext ⟨fun h => h.2, fun h => ⟨szc, h⟩⟩
theorem ev_sz4 : Ev (SzQ 4 A) = Ev A := propext ⟨fun h => h.2, fun h => ⟨szc, h⟩⟩
theorem ev_sz5 : Ev (SzQ 5 A) = Ev A := propext ⟨fun h => h.2, fun h => ⟨szc, h⟩⟩
theorem ev_sz6 : Ev (SzQ 6 A) = Ev A := propext ⟨fun h => h.2, fun h => ⟨szc, h⟩⟩
theorem ev_sz7 : Ev (SzQ 7 A) = Ev A := propext ⟨fun h => h.2, fun h => ⟨szc, h⟩⟩
theorem ev_sz8 : Ev (SzQ 8 A) = Ev A := propext ⟨fun h => h.2, fun h => ⟨szc, h⟩⟩
theorem ev_c : Ev (pC d ρ R) = Ev (R d) := rfl
theorem ev_op : Ev (pOp rd wa wb ρ R) = Ev (wa ρ fun x => wb ρ fun y => rd x y R) := rfl
theorem ev_neg : Ev (pNeg wa ρ R) = Ev (wa ρ fun x => NegQ x R) := rfl
theorem ev_negI : Ev (NegQ (.int i) R) = Ev (R (.int (-i))) := rfl
theorem ev_ix : Ev (pIx wa wb ρ R) = Ev (wa ρ fun x => wb ρ fun y => IxQ x y R) := rfl
theorem ev_ixT : Ev (IxQ (.tup l) (.int i) R) = Ev (AtQ l i R) := rfl
theorem ev_ixL : Ev (IxQ (.lst ma l) (.int i) R) = Ev (AtQ l i R) := rfl
theorem ev_ixK : Ev (IxQ (.lsk l) (.int i) R) = Ev (AtQ l i R) := rfl
theorem ev_ixP0 : ∀ {q : Int × Int}, Ev (IxQ (prD q) (.int 0) R) = Ev (R (.int q.1)) := rfl
theorem ev_ixP1 : ∀ {q : Int × Int}, Ev (IxQ (prD q) (.int 1) R) = Ev (R (.int q.2)) := rfl
theorem ev_at0 : ∀ {x0 : D}, Ev (AtQ (x0 :: l) 0 R) = Ev (R x0) := by intros a0 ; unfold AtQ; rw [show atI (a0 :: l) 0 = some a0 from atI_nat (j := 0) rfl]
theorem ev_at1 : ∀ {x0 x1 : D}, Ev (AtQ (x0 :: x1 :: l) 1 R) = Ev (R x1) := by intros a0 a1; unfold AtQ; rw [show atI (a0 :: a1 :: l) 1 = some a1 from atI_nat (j := 1) rfl]
theorem ev_at2 : ∀ {x0 x1 x2 : D}, Ev (AtQ (x0 :: x1 :: x2 :: l) 2 R) = Ev (R x2) := by intros a0 a1 a2; unfold AtQ; rw [show atI (a0 :: a1 :: a2 :: l) 2 = some a2 from atI_nat (j := 2) rfl]
theorem ev_at3 : ∀ {x0 x1 x2 x3 : D}, Ev (AtQ (x0 :: x1 :: x2 :: x3 :: l) 3 R) = Ev (R x3) := by intros a0 a1 a2 a3; unfold AtQ; rw [show atI (a0 :: a1 :: a2 :: a3 :: l) 3 = some a3 from atI_nat (j := 3) rfl]
theorem ev_at4 : ∀ {x0 x1 x2 x3 x4 : D}, Ev (AtQ (x0 :: x1 :: x2 :: x3 :: x4 :: l) 4 R) = Ev (R x4) := by intros a0 a1 a2 a3 a4; unfold AtQ; rw [show atI (a0 :: a1 :: a2 :: a3 :: a4 :: l) 4 = some a4 from atI_nat (j := 4) rfl]
theorem ev_at5 : ∀ {x0 x1 x2 x3 x4 x5 : D}, Ev (AtQ (x0 :: x1 :: x2 :: x3 :: x4 :: x5 :: l) 5 R) = Ev (R x5) := by intros a0 a1 a2 a3 a4 a5; unfold AtQ; rw [show atI (a0 :: a1 :: a2 :: a3 :: a4 :: a5 :: l) 5 = some a5 from atI_nat (j := 5) rfl]
theorem ev_at6 : ∀ {x0 x1 x2 x3 x4 x5 x6 : D}, Ev (AtQ (x0 :: x1 :: x2 :: x3 :: x4 :: x5 :: x6 :: l) 6 R) = Ev (R x6) := by intros a0 a1 a2 a3 a4 a5 a6; unfold AtQ; rw [show atI (a0 :: a1 :: a2 :: a3 :: a4 :: a5 :: a6 :: l) 6 = some a6 from atI_nat (j := 6) rfl]
theorem ev_at7 : ∀ {x0 x1 x2 x3 x4 x5 x6 x7 : D}, Ev (AtQ (x0 :: x1 :: x2 :: x3 :: x4 :: x5 :: x6 :: x7 :: l) 7 R) = Ev (R x7) := by intros a0 a1 a2 a3 a4 a5 a6 a7; unfold AtQ; rw [show atI (a0 :: a1 :: a2 :: a3 :: a4 :: a5 :: a6 :: a7 :: l) 7 = some a7 from atI_nat (j := 7) rfl]
theorem ev_len : Ev (pLen wa ρ R) = Ev (wa ρ fun x => LenQ x R) := rfl
theorem ev_lenT : Ev (LenQ (.tup l) R) = Ev (R (.int l.length)) := rfl
theorem ev_lenL : Ev (LenQ (.lst ma l) R) = Ev (R (.int l.length)) := rfl
theorem ev_lenK : Ev (LenQ (.lsk l) R) = Ev (R (.int l.length)) := rfl
theorem ev_rdI0 : Ev (rdI0 gg (.int i) (.int j) R) = Ev (R (gg i j)) := rfl
theorem ev_rdI : Ev (rdI C gg (.int i) (.int j) R) = (C i j ∧ Ev (R (gg i j))) := rfl
theorem ev_rdAdd : Ev (rdAdd (.int i) (.int j) R) = Ev (R (.int (i + j))) := rfl
theorem ev_rdSub : Ev (rdSub (.int i) (.int j) R) = Ev (R (.int (i - j))) := rfl
theorem ev_rdLt : Ev (rdLt (.int i) (.int j) R) = Ev (R (.bl (decide (i < j)))) := rfl
theorem ev_rdLe : Ev (rdLe (.int i) (.int j) R) = Ev (R (.bl (decide (i ≤ j)))) := rfl
theorem ev_rdGt : Ev (rdGt (.int i) (.int j) R) = Ev (R (.bl (decide (j < i)))) := rfl
theorem ev_rdGe : Ev (rdGe (.int i) (.int j) R) = Ev (R (.bl (decide (j ≤ i)))) := rfl
theorem ev_rdMul : Ev (rdMul (.int i) (.int j) R) = (MulOk i j ∧ Ev (R (.int (i * j)))) := rfl
theorem ev_rdFdiv : Ev (rdFdiv (.int i) (.int j) R) = (CDivW i j ∧ Ev (R (.int (i / j)))) := rfl
theorem ev_rdMod : Ev (rdMod (.int i) (.int j) R) = (0 < j ∧ Ev (R (.int (i % j)))) := rfl
theorem ev_rdEqI : Ev (rdEq (.int i) (.int j) R) = Ev (R (.bl (decide (i = j)))) := by show Ev (_ ∧ R (.bl (decide (V.int i = V.int j)))) = _; rw [dec_i]; exact propext ⟨fun h => h.2, fun h => ⟨rfl, h⟩⟩
theorem ev_rdEqS : Ev (rdEq (.str s) (.str t) R) = Ev (R (.bl (decide (s = t)))) := by show Ev (_ ∧ R (.bl (decide (V.str s = V.str t)))) = _; rw [dec_s]; exact propext ⟨fun h => h.2, fun h => ⟨rfl, h⟩⟩
theorem ev_rdNeI : Ev (rdNe (.int i) (.int j) R) = Ev (R (.bl (!decide (i = j)))) := by show Ev (_ ∧ R (.bl (!decide (V.int i = V.int j)))) = _; rw [dec_i]; exact propext ⟨fun h => h.2, fun h => ⟨rfl, h⟩⟩
theorem ev_rdNeS : Ev (rdNe (.str s) (.str t) R) = Ev (R (.bl (!decide (s = t)))) := by show Ev (_ ∧ R (.bl (!decide (V.str s = V.str t)))) = _; rw [dec_s]; exact propext ⟨fun h => h.2, fun h => ⟨rfl, h⟩⟩
theorem ev_isN_int : Ev (rdIsN (.int i) .non R) = Ev (R (.bl false)) := rfl
theorem ev_notN_int : Ev (rdNotN (.int i) .non R) = Ev (R (.bl true)) := rfl
theorem ev_isN_bl : Ev (rdIsN (.bl b) .non R) = Ev (R (.bl false)) := rfl
theorem ev_notN_bl : Ev (rdNotN (.bl b) .non R) = Ev (R (.bl true)) := rfl
theorem ev_isN_str : Ev (rdIsN (.str s) .non R) = Ev (R (.bl false)) := rfl
theorem ev_notN_str : Ev (rdNotN (.str s) .non R) = Ev (R (.bl true)) := rfl
theorem ev_isN_tup : Ev (rdIsN (.tup l) .non R) = Ev (R (.bl false)) := rfl
theorem ev_notN_tup : Ev (rdNotN (.tup l) .non R) = Ev (R (.bl true)) := rfl
theorem ev_isN_lst : Ev (rdIsN (.lst ma l) .non R) = Ev (R (.bl false)) := rfl
theorem ev_notN_lst : Ev (rdNotN (.lst ma l) .non R) = Ev (R (.bl true)) := rfl
theorem ev_isN_lsk : Ev (rdIsN (.lsk l) .non R) = Ev (R (.bl false)) := rfl
theorem ev_notN_lsk : Ev (rdNotN (.lsk l) .non R) = Ev (R (.bl true)) := rfl
theorem ev_isN_non : Ev (rdIsN .non .non R) = Ev (R (.bl true)) := rfl
theorem ev_notN_non : Ev (rdNotN .non .non R) = Ev (R (.bl false)) := rfl
theorem ev_pure : Ev (ePure wp ρ Q Qx) = Ev (wp ρ fun d => OwQ d (Q d ρ)) := rfl
theorem ev_keep : Ev (eKeep we ρ Q Qx) = Ev (we ρ (fun d ρ' => KeepQ d fun d => OwQ d (Q d ρ')) Qx) := rfl
theorem ev_keep_lst : Ev (KeepQ (.lst ma l) R) = Ev (R (.lst none l)) := rfl
theorem ev_keep_tup : Ev (KeepQ (.tup l) R) = Ev (R (.tup l)) := rfl
theorem ev_keep_int : Ev (KeepQ (.int i) R) = Ev (R (.int i)) := rfl
theorem ev_keep_non : Ev (KeepQ (.non) R) = Ev (R (.non)) := rfl
theorem ev_keep_bl : Ev (KeepQ (.bl b) R) = Ev (R (.bl b)) := rfl
theorem ev_keep_str : Ev (KeepQ (.str s) R) = Ev (R (.str s)) := rfl
theorem ev_keep_lsk : Ev (KeepQ (.lsk l) R) = Ev (R (.lsk l)) := rfl
theorem ev_keepP : ∀ {q : Int × Int}, Ev (KeepQ (prD q) R) = Ev (R (prD q)) := by intros; rfl
theorem ev_keepS : ∀ {q : Sq l}, Ev (KeepQ q.d R) = Ev (R q.d) := by intro q; obtain ⟨d, h⟩ := q; rcases h with rfl | rfl <;> rfl
theorem ev_fr1_lst : fr1 (.lst ma l) = .lst none l := rfl
theorem ev_fr1_tup : fr1 (.tup l) = .tup l := rfl
theorem ev_fr1_int : fr1 (.int i) = .int i := rfl
theorem ev_fr1_non : fr1 (.non) = .non := rfl
theorem ev_fr1_bl : fr1 (.bl b) = .bl b := rfl
theorem ev_fr1_str : fr1 (.str s) = .str s := rfl
theorem ev_fr1_lsk : fr1 (.lsk l) = .lsk l := rfl
theorem ev_eop : Ev (eOp rd we wf ρ Q Qx) = Ev (we ρ (fun x ρ1 => OwQ x (wf ρ1 (fun y ρ2 => rd x y fun z => Q z ρ2) Qx)) Qx) := rfl
theorem ev_tup : Ev (eTup ws ρ Q Qx) = Ev (ws ρ (fun as ρ1 => VsQ as fun ds => OwsQ ds (SzQ ds.length (Q (.tup ds) ρ1))) Qx) := rfl
theorem ev_lst : Ev (eLst ws ρ Q Qx) = Ev (ws ρ (fun as ρ1 => VsQ as fun ds => SzQ ds.length (∀ p, Q (.lst (some p) ds) ρ1)) Qx) := rfl
theorem ev_vs_nil : Ev (VsQ [] RL) = Ev (RL []) := rfl
theorem ev_vs_1 : ∀ {x0 : D}, Ev (VsQ [.val x0] RL) = Ev (RL [x0]) := by intros; rfl
theorem ev_vs_2 : ∀ {x0 x1 : D}, Ev (VsQ [.val x0, .val x1] RL) = Ev (RL [x0, x1]) := by intros; rfl
theorem ev_vs_3 : ∀ {x0 x1 x2 : D}, Ev (VsQ [.val x0, .val x1, .val x2] RL) = Ev (RL [x0, x1, x2]) := by intros; rfl
theorem ev_vs_4 : ∀ {x0 x1 x2 x3 : D}, Ev (VsQ [.val x0, .val x1, .val x2, .val x3] RL) = Ev (RL [x0, x1, x2, x3]) := by intros; rfl
theorem ev_vs_5 : ∀ {x0 x1 x2 x3 x4 : D}, Ev (VsQ [.val x0, .val x1, .val x2, .val x3, .val x4] RL) = Ev (RL [x0, x1, x2, x3, x4]) := by intros; rfl
theorem ev_vs_6 : ∀ {x0 x1 x2 x3 x4 x5 : D}, Ev (VsQ [.val x0, .val x1, .val x2, .val x3, .val x4, .val x5] RL) = Ev (RL [x0, x1, x2, x3, x4, x5]) := by intros; rfl
theorem ev_vs_7 : ∀ {x0 x1 x2 x3 x4 x5 x6 : D}, Ev (VsQ [.val x0, .val x1, .val x2, .val x3, .val x4, .val x5, .val x6] RL) = Ev (RL [x0, x1, x2, x3, x4, x5, x6]) := by intros; rfl
theorem ev_eif : Ev (eIf wt we wf ρ Q Qx) = Ev (wt ρ (fun k ρ1 => IfB k (we ρ1 Q Qx) (wf ρ1 Q Qx)) Qx) := rfl
theorem ev_eand : Ev (eAnd we wf ρ Q Qx) = Ev (we ρ (AndQ wf Q Qx) Qx) := rfl
theorem ev_andQ : Ev (AndQ wf Q Qx (.bl b) ρ) = Ev (IfB b (wf ρ Q Qx) (Q (.bl false) ρ)) := rfl
theorem ev_eor : Ev (eOr we wf ρ Q Qx) = Ev (we ρ (OrQ wf Q Qx) Qx) := rfl
theorem ev_orQ : Ev (OrQ wf Q Qx (.bl b) ρ) = Ev (IfB b (Q (.bl true) ρ) (wf ρ Q Qx)) := rfl
theorem ev_enot : Ev (eNot we ρ Q Qx) = Ev (we ρ (NotQ Q) Qx) := rfl
theorem ev_notQ : Ev (NotQ Q (.bl b) ρ) = Ev (Q (.bl (!b)) ρ) := rfl
theorem ev_enotT : Ev (eNotT we ρ Q Qx) = Ev (we ρ (fun x ρ1 => TruQ x fun k => Q (.bl (!k)) ρ1) Qx) := rfl
theorem ev_eneg : Ev (eNeg we ρ Q Qx) = Ev (we ρ (fun x ρ1 => NegQ x fun z => Q z ρ1) Qx) := by first | rfl | (show (we ρ _ Qx) = (we ρ _ Qx); congr; funext x ρ1; cases x <;> rfl)
theorem ev_eix : Ev (eIx we wf ρ Q Qx) = Ev (we ρ (fun x ρ1 => OwQ x (wf ρ1 (fun y ρ2 => ixD x y fun d => OwQ d (Q d ρ2)) Qx)) Qx) := rfl
theorem ev_ixDT : Ev (ixD (.tup l) (.int i) R) = Ev (AtQ l i R) := rfl
theorem ev_ixDL : Ev (ixD (.lst ma l) (.int i) R) = Ev (AtQ l i R) := rfl
theorem ev_ixDP0 : ∀ {q : Int × Int}, Ev (ixD (prD q) (.int 0) R) = Ev (R (.int q.1)) := rfl
theorem ev_ixDP1 : ∀ {q : Int × Int}, Ev (ixD (prD q) (.int 1) R) = Ev (R (.int q.2)) := rfl
theorem ev_elen : Ev (eLen we ρ Q Qx) = Ev (we ρ (fun x ρ1 => LenQ x fun z => Q z ρ1) Qx) := by first | rfl | (show (we ρ _ Qx) = (we ρ _ Qx); congr; funext x ρ1; cases x <;> rfl)
theorem ev_callB : Ev (eCallB rdl ws ρ Q Qx) = Ev (ws ρ (fun as ρ1 => VsQ as fun ds => OwsQ ds (rdl ds fun z => Q z ρ1)) Qx) := rfl
theorem ev_rdInt : Ev (rdInt [.int i] R) = Ev (R (.int i)) := rfl
theorem ev_rdMax : Ev (rdMax2 [.int i, .int j] R) = Ev (R (.int (max i j))) := by show R (.int (if j > i then j else i)) = R (.int (max i j)); congr 2; split <;> omega
theorem ev_rdMin : Ev (rdMin2 [.int i, .int j] R) = Ev (R (.int (min i j))) := by show R (.int (if j < i then j else i)) = R (.int (min i j)); congr 2; split <;> omega
theorem ev_rdI2 : Ev (rdI2 g2 [.int i, .int j] R) = Ev (R (.int (g2 i j))) := rfl
theorem ev_rdAbs : Ev (rdAbs [.int i] R) = Ev (R (.int (i.natAbs : Int))) := by show R (.int (if i < 0 then -i else i)) = R (.int (i.natAbs : Int)); congr 2; split <;> omega
theorem ev_call : Ev (wCall dsp ws ρ Q Qx) = Ev (ws ρ (fun as ρ1 => resA as ρ1 (CK dsp Q Qx as)) Qx) := rfl
theorem ev_res_nil : Ev (resA [] ρ RE) = Ev (RE [] ρ) := rfl
theorem ev_res_val : Ev (resA (.val d :: as) ρ RE) = Ev (resA as ρ fun ds ρ' => RE (d :: ds) ρ') := rfl
theorem ev_give_nil : Ev (giveA [] ds ρ QE) = Ev (QE ρ) := by cases ds <;> rfl
theorem ev_give_val : Ev (giveA (.val d :: as) (e :: ds) ρ QE) = Ev (giveA as ds ρ QE) := rfl
theorem ev_app : Ev (eApp wl we ρ Q Qx) = Ev (wl ρ (AppQ we Q Qx ρ)) := rfl
theorem ev_appQ : Ev (AppQ we Q Qx ρ pt (.lst (some a) l)) = Ev (we ρ (AppQ2 pt a Q) Qx) := rfl
theorem ev_pop : Ev (ePop wl ρ Q Qx) = Ev (wl ρ (PopQ Q ρ)) := rfl
theorem ev_listP : Ev (eListP wp ρ Q Qx) = Ev (wp ρ fun d => SeqQ d fun l => ∀ p, Q (.lst (some p) l) ρ) := rfl
theorem ev_listE : Ev (eListE we ρ Q Qx) = Ev (we ρ (fun d ρ' => SeqQ d fun l => ∀ p, Q (.lst (some p) l) ρ') Qx) := rfl
theorem ev_tupP : Ev (eTupP wp ρ Q Qx) = Ev (wp ρ fun d => SeqQ d fun l => Q (.tup l) ρ) := rfl
theorem ev_tupE : Ev (eTupE we ρ Q Qx) = Ev (we ρ (fun d ρ' => SeqQ d fun l => Q (.tup l) ρ') Qx) := rfl
theorem ev_seq_tup : Ev (SeqQ (.tup l) RL) = Ev (OwsQ l (RL l)) := rfl
theorem ev_seq_lst : Ev (SeqQ (.lst ma l) RL) = Ev (OwsQ l (RL l)) := rfl
theorem ev_seq_lsk : Ev (SeqQ (.lsk l) RL) = Ev (OwsQ l (RL l)) := rfl
theorem ev_cat : Ev (eCat we wf ρ Q Qx) = Ev (we ρ (CatQ wf Q Qx) Qx) := rfl
theorem ev_catQ : Ev (CatQ wf Q Qx (.lst ma l) ρ) = Ev (OwsQ l (wf ρ (CatQ2 l Q) Qx)) := rfl
theorem ev_catQ2 : Ev (CatQ2 l Q (.lst ma r) ρ) = Ev (OwsQ r (SzQ (l.length + r.length) (∀ p, Q (.lst (some p) (l ++ r)) ρ))) := rfl
theorem ev_catT : Ev (eCatT we wf ρ Q Qx) = Ev (we ρ (CatTQ wf Q Qx) Qx) := rfl
theorem ev_catTQ : Ev (CatTQ wf Q Qx (.tup l) ρ) = Ev (OwsQ l (wf ρ (CatTQ2 l Q) Qx)) := rfl
theorem ev_catTQ2 : Ev (CatTQ2 l Q (.tup r) ρ) = Ev (SzQ (l.length + r.length) (Q (.tup (l ++ r)) ρ)) := rfl
theorem ev_rep : Ev (eRep we wf ρ Q Qx) = Ev (we ρ (RepQ wf Q Qx) Qx) := rfl
theorem ev_repQ : Ev (RepQ wf Q Qx (.lst ma l) ρ) = Ev (OwsQ l (wf ρ (RepQ2 l Q) Qx)) := rfl
theorem ev_repQ2 : Ev (RepQ2 l Q (.int i) ρ) = (-(2 ^ 63) ≤ i ∧ i < 2 ^ 63 ∧ Ev (SzQ (l.length * i.toNat) (∀ p, Q (.lst (some p) (List.replicate i.toNat l).flatten) ρ))) := rfl
theorem ev_slc : Ev (eSlc wp lo hi ρ Q Qx) = Ev (wp ρ (SlcQ lo hi Q ρ)) := rfl
theorem ev_slcT : Ev (SlcQ lo hi Q ρ (.tup l)) = Ev (OwsQ l (poW lo ρ fun i => poW hi ρ fun j => Q (.tup (cutD l i j)) ρ)) := rfl
theorem ev_slcL : Ev (SlcQ lo hi Q ρ (.lst ma l)) = Ev (OwsQ l (poW lo ρ fun i => poW hi ρ fun j => ∀ p, Q (.lst (some p) (cutD l i j)) ρ)) := rfl
theorem ev_slcE : Ev (eSlcE we lo hi ρ Q Qx) = Ev (we ρ (SlcEQ lo hi Q) Qx) := rfl
theorem ev_slcET : Ev (SlcEQ lo hi Q (.tup l) ρ) = Ev (OwsQ l (poW lo ρ fun i => poW hi ρ fun j => Q (.tup (cutD l i j)) ρ)) := rfl
theorem ev_slcEL : Ev (SlcEQ lo hi Q (.lst none l) ρ) = Ev (OwsQ l (poW lo ρ fun i => poW hi ρ fun j => ∀ p, Q (.lst (some p) (cutD l i j)) ρ)) := rfl
theorem ev_poN : Ev (poW none ρ RO) = Ev (RO none) := rfl
theorem ev_poS : Ev (poW (some wp) ρ RO) = Ev (wp ρ (IQ RO)) := rfl
theorem ev_iq : Ev (IQ RO (.int i)) = Ev (RO (some i)) := rfl
theorem ev_lc : Ev (eLc wi g wt we vs ρ Q Qx) = Ev (wi ρ (fun l ρ1 => WpQ ρ1 vs (LcS g wt we vs Q l)) Qx) := rfl
theorem ev_wp1 : Ev (WpQ ρ [k] QE) = Ev (SetK k none ρ QE) := rfl
theorem ev_wp2 : Ev (WpQ ρ [k, m] QE) = Ev (SetK m none ρ fun ρ1 => SetK k none ρ1 QE) := rfl
theorem ev_wp3 : ∀ {kk : Nat}, Ev (WpQ ρ [k, m, kk] QE) = Ev (SetK kk none ρ fun ρ1 => SetK m none ρ1 fun ρ2 => SetK k none ρ2 QE) := by intros; rfl
theorem ev_ixS : ∀ {q : Sq l}, Ev (IxQ q.d (.int i) R) = Ev (AtQ l i R) := by intro q; obtain ⟨d, h⟩ := q; rcases h with rfl | rfl <;> rfl
theorem ev_lenS : ∀ {q : Sq l}, Ev (LenQ q.d R) = Ev (R (.int l.length)) := by intro q; obtain ⟨d, h⟩ := q; rcases h with rfl | rfl <;> rfl
theorem ev_seqS : ∀ {q : Sq l}, Ev (SeqQ q.d RL) = Ev (OwsQ l (RL l)) := by intro q; obtain ⟨d, h⟩ := q; rcases h with rfl | rfl <;> rfl
theorem ev_walkS : ∀ {q : Sq l}, Ev (WalkQ q.d RL) = Ev (RL l) := by intro q; obtain ⟨d, h⟩ := q; rcases h with rfl | rfl <;> rfl
theorem ev_owS : ∀ {q : Sq l}, Ev (OwQ q.d A) = Ev (OwsQ l A) := by intro q; obtain ⟨d, h⟩ := q; rcases h with rfl | rfl <;> rfl
theorem ev_fr1S : ∀ {q : Sq l}, fr1 q.d = q.d := by intro q; obtain ⟨d, h⟩ := q; rcases h with rfl | rfl <;> rfl
theorem ev_addrP : ∀ {s : PoolS a}, addr s.d = some a := by intro s; exact pool_addr s.ok
theorem ev_ienumS : Ev (iEnumS we ρ QI Qx) = Ev (iEnumD we ρ QI Qx ∨ iEnumT we ρ QI Qx) := rfl
theorem ev_stry : ∀ {Cx : Addr} {gx : XD → Option (List D)}, Ev (sTryRet k Cx w1 gx ⟨nx, rt, bk, ct, xx⟩ ρ) = Ev (w1 ⟨nx, rt, bk, ct, TryX k Cx gx rt⟩ ρ) := by intros; rfl
theorem ev_listRg : Ev (eListRg wa wb ρ Q Qx) = Ev (wa ρ fun x => wb ρ fun y => LRg x y fun z => Q z ρ) := by first | rfl | (show (wa ρ _) = (wa ρ _); congr; funext x; congr; funext y; cases x <;> cases y <;> rfl)
theorem ev_lrg : Ev (LRg (.int i) (.int j) R) = (RgOk i j ∧ Ev (∀ p, R (.lst (some p) (rgD i j)))) := rfl
theorem ev_anil : Ev (aNil ρ QA Qx) = Ev (QA [] ρ) := rfl
theorem ev_aval : Ev (aVal we ws ρ QA Qx) = Ev (we ρ (fun d ρ1 => ws ρ1 (fun as ρ2 => QA (.val d :: as) ρ2) Qx) Qx) := rfl
theorem ev_alend : Ev (aLend wl ws ρ QA Qx) = Ev (wl ρ fun p d => LendA (addr d) fun a => ws ρ (fun as ρ2 => QA (.lend p a :: as) ρ2) Qx) := propext (by show wl ρ _ ↔ wl ρ _; exact iff_of_eq (congrArg (wl ρ) (funext fun p => funext fun d => propext ⟨fun ⟨a, h1, h2⟩ => by unfold LendA; rw [h1]; exact h2, fun h => by unfold LendA at h; split at h <;> first | exact ⟨_, by assumption, h⟩ | exact h.elim⟩)))
theorem ev_lendA : ∀ {f : Addr → Prop}, Ev (LendA (some a) f) = Ev (f a) := rfl
theorem ev_addrL : addr (.lst ma l) = ma := rfl
theorem ev_astar : Ev (aStar wp ws ρ QA Qx) = Ev (wp ρ fun d => SeqQ d fun l => ws ρ (fun as ρ2 => QA (l.map Arg.val ++ as) ρ2) Qx) := rfl
theorem ev_tpure : Ev (tPure rd wa wb ρ QB Qx) = Ev (wa ρ fun x => wb ρ fun y => rd x y (BQ QB ρ)) := rfl
theorem ev_bq : Ev (BQ QB ρ (.bl b)) = Ev (QB b ρ) := rfl
theorem ev_topd : Ev (tOpD rd we wf ρ QB Qx) = Ev (we ρ (fun x ρ1 => OwQ x (wf ρ1 (fun y ρ2 => rd x y (BQ QB ρ2)) Qx)) Qx) := rfl
theorem ev_ttruP : Ev (tTruP wp ρ QB Qx) = Ev (wp ρ fun x => TruQ x fun k => QB k ρ) := rfl
theorem ev_ttru : Ev (tTru we ρ QB Qx) = Ev (we ρ (fun x ρ1 => TruQ x fun k => QB k ρ1) Qx) := rfl
theorem ev_truB : Ev (TruQ (.bl b) RB) = Ev (RB b) := rfl
theorem ev_truN : Ev (TruQ .non RB) = Ev (RB false) := rfl
theorem ev_truT0 : Ev (TruQ (.tup []) RB) = Ev (RB false) := rfl
theorem ev_truT1 : Ev (TruQ (.tup (d :: l)) RB) = Ev (RB true) := rfl
theorem ev_truL0 : Ev (TruQ (.lst ma []) RB) = Ev (RB false) := rfl
theorem ev_truL1 : Ev (TruQ (.lst ma (d :: l)) RB) = Ev (RB true) := rfl
theorem ev_tnot : Ev (tNotD wt ρ QB Qx) = Ev (wt ρ (fun b ρ1 => QB (!b) ρ1) Qx) := rfl
theorem ev_tand : Ev (tAndD wt wu ρ QB Qx) = Ev (wt ρ (fun b ρ1 => IfB b (wu ρ1 QB Qx) (QB false ρ1)) Qx) := rfl
theorem ev_tor : Ev (tOrD wt wu ρ QB Qx) = Ev (wt ρ (fun b ρ1 => IfB b (QB true ρ1) (wu ρ1 QB Qx)) Qx) := rfl
theorem ev_tall : Ev (tAll ρ QB Qx) = Ev (QB true ρ) := rfl
theorem ev_tch : ∀ {r1 r2 : RD}, Ev (tChainP r1 r2 wp wq wr ρ QB Qx) = Ev (wp ρ fun x => wq ρ fun y => r1 x y (ChQ r2 wr y ρ QB)) := by intros; rfl
theorem ev_chq : ∀ {r2 : RD}, Ev (ChQ r2 wr y ρ QB (.bl b)) = Ev (IfB b (wr ρ fun u => r2 y u (BQ QB ρ)) (QB false ρ)) := by intros; rfl
theorem ev_isq : Ev (iSq we ρ QI Qx) = Ev (we ρ (fun d ρ' => WalkQ d fun l => QI l ρ') Qx) := by first | rfl | (show we ρ _ Qx = we ρ _ Qx; congr; funext d ρ1; cases d <;> first | rfl | (rename_i mm ll; cases mm <;> rfl))
theorem ev_walkT : Ev (WalkQ (.tup l) RL) = Ev (RL l) := rfl
theorem ev_walkL : Ev (WalkQ (.lst none l) RL) = Ev (RL l) := rfl
theorem ev_walkK : Ev (WalkQ (.lsk l) RL) = Ev (RL l) := rfl
theorem ev_itp : Ev (iTp we ρ QI Qx) = Ev (we ρ (fun d ρ' => TpI d fun l => QI l ρ') Qx) := by first | rfl | (show we ρ _ Qx = we ρ _ Qx; congr; funext d ρ1; cases d <;> rfl)
theorem ev_tpI : Ev (TpI (.tup l) RL) = Ev (RL l) := rfl
theorem ev_ils : Ev (iLs we ρ QI Qx) = Ev (we ρ (fun d ρ' => LsI d fun l => QI l ρ') Qx) := by first | rfl | (show we ρ _ Qx = we ρ _ Qx; congr; funext d ρ1; cases d <;> first | rfl | (rename_i mm ll; cases mm <;> rfl))
theorem ev_lsI : Ev (LsI (.lst none l) RL) = Ev (RL l) := rfl
theorem ev_lsK : Ev (LsI (.lsk l) RL) = Ev (RL l) := rfl
theorem ev_irg1 : Ev (iRg1 ws ρ QI Qx) = Ev (ws ρ (RgQ1 QI) Qx) := rfl
theorem ev_rg1 : Ev (RgQ1 QI [.val (.int j)] ρ) = (Rg j ∧ Ev (QI (iseq 0 j.toNat) ρ)) := rfl
theorem ev_irg2 : Ev (iRg2 ws ρ QI Qx) = Ev (ws ρ (RgQ2 QI) Qx) := rfl
theorem ev_rg2 : Ev (RgQ2 QI [.val (.int i), .val (.int j)] ρ) = (Rg i ∧ Rg j ∧ Ev (QI (iseq i (j - i).toNat) ρ)) := rfl
theorem ev_ienum : Ev (iEnumD we ρ QI Qx) = Ev (we ρ (fun d ρ' => EnumQ d fun l => QI l ρ') Qx) := by first | rfl | (show we ρ _ Qx = we ρ _ Qx; congr; funext d ρ1; cases d <;> first | rfl | (rename_i mm ll; cases mm <;> rfl))
theorem ev_enumL : Ev (EnumQ (.lst none l) RL) = Ev (RL (enumD l)) := rfl
theorem ev_enumK : Ev (EnumQ (.lsk l) RL) = Ev (RL (enumD l)) := rfl
theorem ev_ienumT : Ev (iEnumT we ρ QI Qx) = Ev (we ρ (fun d ρ' => TpI d fun l => QI (enumD l) ρ') Qx) := by first | rfl | (show we ρ _ Qx = we ρ _ Qx; congr; funext d ρ1; cases d <;> rfl)
theorem ev_gnm : Ev (gNm k d ρ QE) = Ev (SetK k (some d) ρ QE) := rfl
theorem ev_gtp : Ev (gTp gs k d ρ QE) = Ev (TpQ gs k d ρ QE) := rfl
theorem ev_tpq1 : ∀ {x0 : D}, Ev (TpQ gs 1 (.tup [x0]) ρ QE) = Ev (gs [x0] ρ QE) := by intros; exact propext ⟨fun h => h.2, fun h => ⟨rfl, h⟩⟩
theorem ev_tpq2 : ∀ {x0 x1 : D}, Ev (TpQ gs 2 (.tup [x0, x1]) ρ QE) = Ev (gs [x0, x1] ρ QE) := by intros; exact propext ⟨fun h => h.2, fun h => ⟨rfl, h⟩⟩
theorem ev_tpq3 : ∀ {x0 x1 x2 : D}, Ev (TpQ gs 3 (.tup [x0, x1, x2]) ρ QE) = Ev (gs [x0, x1, x2] ρ QE) := by intros; exact propext ⟨fun h => h.2, fun h => ⟨rfl, h⟩⟩
theorem ev_tpq4 : ∀ {x0 x1 x2 x3 : D}, Ev (TpQ gs 4 (.tup [x0, x1, x2, x3]) ρ QE) = Ev (gs [x0, x1, x2, x3] ρ QE) := by intros; exact propext ⟨fun h => h.2, fun h => ⟨rfl, h⟩⟩
theorem ev_tpq5 : ∀ {x0 x1 x2 x3 x4 : D}, Ev (TpQ gs 5 (.tup [x0, x1, x2, x3, x4]) ρ QE) = Ev (gs [x0, x1, x2, x3, x4] ρ QE) := by intros; exact propext ⟨fun h => h.2, fun h => ⟨rfl, h⟩⟩
theorem ev_tpq6 : ∀ {x0 x1 x2 x3 x4 x5 : D}, Ev (TpQ gs 6 (.tup [x0, x1, x2, x3, x4, x5]) ρ QE) = Ev (gs [x0, x1, x2, x3, x4, x5] ρ QE) := by intros; exact propext ⟨fun h => h.2, fun h => ⟨rfl, h⟩⟩
theorem ev_tpqP : ∀ {q : Int × Int}, Ev (TpQ gs 2 (prD q) ρ QE) = Ev (gs [.int q.1, .int q.2] ρ QE) := by intros; exact propext ⟨fun h => h.2, fun h => ⟨rfl, h⟩⟩
theorem ev_gsnil : Ev (gsNil [] ρ QE) = Ev (QE ρ) := rfl
theorem ev_gscons : Ev (gsCons g gs (d :: l) ρ QE) = Ev (g d ρ fun ρ1 => gs l ρ1 QE) := rfl
theorem ev_sseq : Ev (sSeq w1 w2 ⟨nx, rt, bk, ct, xx⟩ ρ) = Ev (w1 ⟨fun ρ' => w2 ⟨nx, rt, bk, ct, xx⟩ ρ', rt, bk, ct, xx⟩ ρ) := by rw [sSeq_eq]
theorem ev_snext : Ev (sNext ⟨nx, rt, bk, ct, xx⟩ ρ) = Ev (nx ρ) := rfl
theorem ev_sbrk : Ev (sBrk ⟨nx, rt, bk, ct, xx⟩ ρ) = Ev (bk ρ) := rfl
theorem ev_scnt : Ev (sCnt ⟨nx, rt, bk, ct, xx⟩ ρ) = Ev (ct ρ) := rfl
theorem ev_sdrop : Ev (sDrop we ⟨nx, rt, bk, ct, xx⟩ ρ) = Ev (we ρ (fun _ ρ' => nx ρ') xx) := rfl
theorem ev_sret : Ev (sRet we ⟨nx, rt, bk, ct, xx⟩ ρ) = Ev (we ρ rt xx) := rfl
theorem ev_sretn : Ev (sRetN ⟨nx, rt, bk, ct, xx⟩ ρ) = Ev (rt .non ρ) := rfl
theorem ev_sif : Ev (sIf wt w1 w2 ⟨nx, rt, bk, ct, xx⟩ ρ) = Ev (wt ρ (fun b ρ' => IfB b (w1 ⟨nx, rt, bk, ct, xx⟩ ρ') (w2 ⟨nx, rt, bk, ct, xx⟩ ρ')) xx) := by rw [sIf_eq]; rfl
theorem ev_sset : Ev (sSet k we ⟨nx, rt, bk, ct, xx⟩ ρ) = Ev (we ρ (fun d ρ' => SetK k (some d) ρ' nx) xx) := rfl
theorem ev_sasg : Ev (sAsg we g ⟨nx, rt, bk, ct, xx⟩ ρ) = Ev (we ρ (fun d ρ' => g d ρ' nx) xx) := rfl
theorem ev_sfor : Ev (sFor wi g w1 ⟨nx, rt, bk, ct, xx⟩ ρ) = Ev (wi ρ (ForS g w1 ⟨nx, rt, bk, ct, xx⟩) xx) := by rw [sFor_eq]; rfl
theorem ev_swhile : Ev (sWhile wt w1 ⟨nx, rt, bk, ct, xx⟩ ρ) = Ev (WhS wt w1 ⟨nx, rt, bk, ct, xx⟩ ρ) := rfl
theorem ev_ssetix : Ev (sSetIx we wl wp ⟨nx, rt, bk, ct, xx⟩ ρ) = Ev (we ρ (fun y ρ1 => wl ρ1 fun p d => wp ρ1 fun j => SetIxQ y ρ1 p d nx j) xx) := rfl
theorem ev_setixq : Ev (SetIxQ y ρ pt (.lst (some a) l) nx (.int i)) = Ev (SetIxN (ixN l.length i) y a l ρ pt nx) := rfl
theorem ev_sraise : ∀ {cls : Value} {ns : List Str}, Ev (sRaise cls ns ws ⟨nx, rt, bk, ct, xx⟩ ρ) = Ev (ws ρ (fun as ρ1 => VsQ as fun ds => OwsQ ds (LnQ ds ns (xx ⟨cls, ns, ds⟩ ρ1))) xx) := by intros; rfl
theorem ev_lnq : ∀ {n : Str}, Ev (LnQ [d] [n] A) = Ev A := by intros; exact propext ⟨fun h => h.2, fun h => ⟨rfl, h⟩⟩
theorem ev_lnq0 : Ev (LnQ [] [] A) = Ev A := by exact propext ⟨fun h => h.2, fun h => ⟨rfl, h⟩⟩
theorem ev_spar : Ev (sPar k m ws ⟨nx, rt, bk, ct, xx⟩ ρ) = Ev (ws ρ (fun as ρ1 => VsQ as fun ds => ParQ k m ds ρ1 nx) xx) := by first | rfl | (show ws ρ _ xx = ws ρ _ xx; congr; funext as ρ1; unfold VsQ ParQ; cases valsOf as with
  | none => rfl
  | some ds => match ds with
    | [] => rfl
    | [_] => rfl
    | [_, _] => rfl
    | _ :: _ :: _ :: _ => rfl)
theorem ev_parq : Ev (ParQ k m [x, y] ρ nx) = Ev (OwQ x (OwQ y (SetK k (some x) ρ fun ρ1 => SetK m (some y) ρ1 nx))) := propext ⟨fun h => ⟨(List.append_eq_nil_iff.mp h.1).1, (List.append_eq_nil_iff.mp (List.append_eq_nil_iff.mp h.1).2).1, h.2⟩, fun h => ⟨by show own x ++ (own y ++ []) = []; rw [h.1, h.2.1]; rfl, h.2.2⟩⟩
theorem ev_var0 : Ev (pVar 0 (some d :: ρ) R) = Ev (R d) := rfl
theorem ev_set0 : Ev (SetK 0 oo (o0 :: ρ) QE) = Ev (QE (oo :: ρ)) := rfl
theorem ev_mov0 : Ev (eMov 0 (some d :: ρ) Q Qx) = Ev (Q d (none :: ρ)) := rfl
theorem ev_frz0 : Ev (eFrz 0 (some (.lst ma l) :: ρ) Q Qx) = Ev (OwsQ l (Q (.lst none l) (some (.lst none l) :: ρ))) := rfl
theorem ev_frzT0 : Ev (eFrz 0 (some (.tup l) :: ρ) Q Qx) = Ev (OwsQ l (Q (.tup l) (some (.tup l) :: ρ))) := rfl
theorem ev_lv0 : ∀ {f : Path → D → Prop}, Ev (lVar 0 (some d :: ρ) f) = Ev (f (0, []) d) := rfl
theorem ev_app2_0 : Ev (AppQ2 (0, []) a Q y (some (.lst (some a) l) :: ρ)) = (l.length < sizeLine ∧ Ev (Q .non (some (.lst (some a) (l ++ [y])) :: ρ))) := propext ⟨fun h => h.2, fun h => ⟨rfl, h⟩⟩
theorem ev_aug0 : Ev (sAug 0 g2 we ⟨nx, rt, bk, ct, xx⟩ (some (.int i) :: ρ)) = Ev (we (some (.int i) :: ρ) (AugQ i 0 g2 nx) xx) := rfl
theorem ev_augq0 : Ev (AugQ i 0 g2 nx (.int j) (o0 :: ρ)) = Ev (nx (some (.int (g2 i j)) :: ρ)) := rfl
theorem ev_setixn0 : Ev (SetIxN (some m) y a l (some d :: ρ) (0, []) nx) = Ev (nx (some (.lst (some a) (l.set m y)) :: ρ)) := rfl
theorem ev_popq0 : Ev (PopQ Q (some d :: ρ) (0, []) (.lst (some a) (l ++ [y]))) = Ev (OwsQ (l ++ [y]) (Q y (some (.lst (some a) l) :: ρ))) := propext ⟨fun h => ⟨h.1, by obtain ⟨_, y2, h2, h3⟩ := h; rw [List.getLast?_concat] at h2; cases h2; have h4 : Q y (setP _ _ (.lst (some a) (l ++ [y]).dropLast)) := h3; rw [List.dropLast_concat] at h4; exact h4⟩, fun h => ⟨h.1, y, List.getLast?_concat, by show Q y (setP _ _ (.lst (some a) (l ++ [y]).dropLast)); rw [List.dropLast_concat]; exact h.2⟩⟩
theorem ev_lend0 : Ev (resA (.lend (0, []) a :: as) (some d :: ρ) RE) = Ev (AdQ (addr d) a (resA as (some (lent a) :: ρ) fun ds ρ' => RE (d :: ds) ρ')) := rfl
theorem ev_giveL0 : Ev (giveA (.lend (0, []) a :: as) (d :: ds) (some (lent a) :: ρ) QE) = Ev (giveA as ds (some d :: ρ) QE) := propext ⟨fun h => h.2, fun h => ⟨rfl, h⟩⟩
theorem ev_var1 : Ev (pVar 1 (o0 :: some d :: ρ) R) = Ev (R d) := rfl
theorem ev_set1 : Ev (SetK 1 oo (o0 :: o1 :: ρ) QE) = Ev (QE (o0 :: oo :: ρ)) := rfl
theorem ev_mov1 : Ev (eMov 1 (o0 :: some d :: ρ) Q Qx) = Ev (Q d (o0 :: none :: ρ)) := rfl
theorem ev_frz1 : Ev (eFrz 1 (o0 :: some (.lst ma l) :: ρ) Q Qx) = Ev (OwsQ l (Q (.lst none l) (o0 :: some (.lst none l) :: ρ))) := rfl
theorem ev_frzT1 : Ev (eFrz 1 (o0 :: some (.tup l) :: ρ) Q Qx) = Ev (OwsQ l (Q (.tup l) (o0 :: some (.tup l) :: ρ))) := rfl
theorem ev_lv1 : ∀ {f : Path → D → Prop}, Ev (lVar 1 (o0 :: some d :: ρ) f) = Ev (f (1, []) d) := rfl
theorem ev_app2_1 : Ev (AppQ2 (1, []) a Q y (o0 :: some (.lst (some a) l) :: ρ)) = (l.length < sizeLine ∧ Ev (Q .non (o0 :: some (.lst (some a) (l ++ [y])) :: ρ))) := propext ⟨fun h => h.2, fun h => ⟨rfl, h⟩⟩
theorem ev_aug1 : Ev (sAug 1 g2 we ⟨nx, rt, bk, ct, xx⟩ (o0 :: some (.int i) :: ρ)) = Ev (we (o0 :: some (.int i) :: ρ) (AugQ i 1 g2 nx) xx) := rfl
theorem ev_augq1 : Ev (AugQ i 1 g2 nx (.int j) (o0 :: o1 :: ρ)) = Ev (nx (o0 :: some (.int (g2 i j)) :: ρ)) := rfl
theorem ev_setixn1 : Ev (SetIxN (some m) y a l (o0 :: some d :: ρ) (1, []) nx) = Ev (nx (o0 :: some (.lst (some a) (l.set m y)) :: ρ)) := rfl
theorem ev_popq1 : Ev (PopQ Q (o0 :: some d :: ρ) (1, []) (.lst (some a) (l ++ [y]))) = Ev (OwsQ (l ++ [y]) (Q y (o0 :: some (.lst (some a) l) :: ρ))) := propext ⟨fun h => ⟨h.1, by obtain ⟨_, y2, h2, h3⟩ := h; rw [List.getLast?_concat] at h2; cases h2; have h4 : Q y (setP _ _ (.lst (some a) (l ++ [y]).dropLast)) := h3; rw [List.dropLast_concat] at h4; exact h4⟩, fun h => ⟨h.1, y, List.getLast?_concat, by show Q y (setP _ _ (.lst (some a) (l ++ [y]).dropLast)); rw [List.dropLast_concat]; exact h.2⟩⟩
theorem ev_lend1 : Ev (resA (.lend (1, []) a :: as) (o0 :: some d :: ρ) RE) = Ev (AdQ (addr d) a (resA as (o0 :: some (lent a) :: ρ) fun ds ρ' => RE (d :: ds) ρ')) := rfl
theorem ev_giveL1 : Ev (giveA (.lend (1, []) a :: as) (d :: ds) (o0 :: some (lent a) :: ρ) QE) = Ev (giveA as ds (o0 :: some d :: ρ) QE) := propext ⟨fun h => h.2, fun h => ⟨rfl, h⟩⟩
theorem ev_var2 : Ev (pVar 2 (o0 :: o1 :: some d :: ρ) R) = Ev (R d) := rfl
theorem ev_set2 : Ev (SetK 2 oo (o0 :: o1 :: o2 :: ρ) QE) = Ev (QE (o0 :: o1 :: oo :: ρ)) := rfl
theorem ev_mov2 : Ev (eMov 2 (o0 :: o1 :: some d :: ρ) Q Qx) = Ev (Q d (o0 :: o1 :: none :: ρ)) := rfl
theorem ev_frz2 : Ev (eFrz 2 (o0 :: o1 :: some (.lst ma l) :: ρ) Q Qx) = Ev (OwsQ l (Q (.lst none l) (o0 :: o1 :: some (.lst none l) :: ρ))) := rfl
theorem ev_frzT2 : Ev (eFrz 2 (o0 :: o1 :: some (.tup l) :: ρ) Q Qx) = Ev (OwsQ l (Q (.tup l) (o0 :: o1 :: some (.tup l) :: ρ))) := rfl
theorem ev_lv2 : ∀ {f : Path → D → Prop}, Ev (lVar 2 (o0 :: o1 :: some d :: ρ) f) = Ev (f (2, []) d) := rfl
theorem ev_app2_2 : Ev (AppQ2 (2, []) a Q y (o0 :: o1 :: some (.lst (some a) l) :: ρ)) = (l.length < sizeLine ∧ Ev (Q .non (o0 :: o1 :: some (.lst (some a) (l ++ [y])) :: ρ))) := propext ⟨fun h => h.2, fun h => ⟨rfl, h⟩⟩
theorem ev_aug2 : Ev (sAug 2 g2 we ⟨nx, rt, bk, ct, xx⟩ (o0 :: o1 :: some (.int i) :: ρ)) = Ev (we (o0 :: o1 :: some (.int i) :: ρ) (AugQ i 2 g2 nx) xx) := rfl
theorem ev_augq2 : Ev (AugQ i 2 g2 nx (.int j) (o0 :: o1 :: o2 :: ρ)) = Ev (nx (o0 :: o1 :: some (.int (g2 i j)) :: ρ)) := rfl
theorem ev_setixn2 : Ev (SetIxN (some m) y a l (o0 :: o1 :: some d :: ρ) (2, []) nx) = Ev (nx (o0 :: o1 :: some (.lst (some a) (l.set m y)) :: ρ)) := rfl
theorem ev_popq2 : Ev (PopQ Q (o0 :: o1 :: some d :: ρ) (2, []) (.lst (some a) (l ++ [y]))) = Ev (OwsQ (l ++ [y]) (Q y (o0 :: o1 :: some (.lst (some a) l) :: ρ))) := propext ⟨fun h => ⟨h.1, by obtain ⟨_, y2, h2, h3⟩ := h; rw [List.getLast?_concat] at h2; cases h2; have h4 : Q y (setP _ _ (.lst (some a) (l ++ [y]).dropLast)) := h3; rw [List.dropLast_concat] at h4; exact h4⟩, fun h => ⟨h.1, y, List.getLast?_concat, by show Q y (setP _ _ (.lst (some a) (l ++ [y]).dropLast)); rw [List.dropLast_concat]; exact h.2⟩⟩
theorem ev_lend2 : Ev (resA (.lend (2, []) a :: as) (o0 :: o1 :: some d :: ρ) RE) = Ev (AdQ (addr d) a (resA as (o0 :: o1 :: some (lent a) :: ρ) fun ds ρ' => RE (d :: ds) ρ')) := rfl
theorem ev_giveL2 : Ev (giveA (.lend (2, []) a :: as) (d :: ds) (o0 :: o1 :: some (lent a) :: ρ) QE) = Ev (giveA as ds (o0 :: o1 :: some d :: ρ) QE) := propext ⟨fun h => h.2, fun h => ⟨rfl, h⟩⟩
theorem ev_var3 : Ev (pVar 3 (o0 :: o1 :: o2 :: some d :: ρ) R) = Ev (R d) := rfl
theorem ev_set3 : Ev (SetK 3 oo (o0 :: o1 :: o2 :: o3 :: ρ) QE) = Ev (QE (o0 :: o1 :: o2 :: oo :: ρ)) := rfl
theorem ev_mov3 : Ev (eMov 3 (o0 :: o1 :: o2 :: some d :: ρ) Q Qx) = Ev (Q d (o0 :: o1 :: o2 :: none :: ρ)) := rfl
theorem ev_frz3 : Ev (eFrz 3 (o0 :: o1 :: o2 :: some (.lst ma l) :: ρ) Q Qx) = Ev (OwsQ l (Q (.lst none l) (o0 :: o1 :: o2 :: some (.lst none l) :: ρ))) := rfl
theorem ev_frzT3 : Ev (eFrz 3 (o0 :: o1 :: o2 :: some (.tup l) :: ρ) Q Qx) = Ev (OwsQ l (Q (.tup l) (o0 :: o1 :: o2 :: some (.tup l) :: ρ))) := rfl
theorem ev_lv3 : ∀ {f : Path → D → Prop}, Ev (lVar 3 (o0 :: o1 :: o2 :: some d :: ρ) f) = Ev (f (3, []) d) := rfl
theorem ev_app2_3 : Ev (AppQ2 (3, []) a Q y (o0 :: o1 :: o2 :: some (.lst (some a) l) :: ρ)) = (l.length < sizeLine ∧ Ev (Q .non (o0 :: o1 :: o2 :: some (.lst (some a) (l ++ [y])) :: ρ))) := propext ⟨fun h => h.2, fun h => ⟨rfl, h⟩⟩
theorem ev_aug3 : Ev (sAug 3 g2 we ⟨nx, rt, bk, ct, xx⟩ (o0 :: o1 :: o2 :: some (.int i) :: ρ)) = Ev (we (o0 :: o1 :: o2 :: some (.int i) :: ρ) (AugQ i 3 g2 nx) xx) := rfl
theorem ev_augq3 : Ev (AugQ i 3 g2 nx (.int j) (o0 :: o1 :: o2 :: o3 :: ρ)) = Ev (nx (o0 :: o1 :: o2 :: some (.int (g2 i j)) :: ρ)) := rfl
theorem ev_setixn3 : Ev (SetIxN (some m) y a l (o0 :: o1 :: o2 :: some d :: ρ) (3, []) nx) = Ev (nx (o0 :: o1 :: o2 :: some (.lst (some a) (l.set m y)) :: ρ)) := rfl
theorem ev_popq3 : Ev (PopQ Q (o0 :: o1 :: o2 :: some d :: ρ) (3, []) (.lst (some a) (l ++ [y]))) = Ev (OwsQ (l ++ [y]) (Q y (o0 :: o1 :: o2 :: some (.lst (some a) l) :: ρ))) := propext ⟨fun h => ⟨h.1, by obtain ⟨_, y2, h2, h3⟩ := h; rw [List.getLast?_concat] at h2; cases h2; have h4 : Q y (setP _ _ (.lst (some a) (l ++ [y]).dropLast)) := h3; rw [List.dropLast_concat] at h4; exact h4⟩, fun h => ⟨h.1, y, List.getLast?_concat, by show Q y (setP _ _ (.lst (some a) (l ++ [y]).dropLast)); rw [List.dropLast_concat]; exact h.2⟩⟩
theorem ev_lend3 : Ev (resA (.lend (3, []) a :: as) (o0 :: o1 :: o2 :: some d :: ρ) RE) = Ev (AdQ (addr d) a (resA as (o0 :: o1 :: o2 :: some (lent a) :: ρ) fun ds ρ' => RE (d :: ds) ρ')) := rfl
theorem ev_giveL3 : Ev (giveA (.lend (3, []) a :: as) (d :: ds) (o0 :: o1 :: o2 :: some (lent a) :: ρ) QE) = Ev (giveA as ds (o0 :: o1 :: o2 :: some d :: ρ) QE) := propext ⟨fun h => h.2, fun h => ⟨rfl, h⟩⟩
theorem ev_var4 : Ev (pVar 4 (o0 :: o1 :: o2 :: o3 :: some d :: ρ) R) = Ev (R d) := rfl
theorem ev_set4 : Ev (SetK 4 oo (o0 :: o1 :: o2 :: o3 :: o4 :: ρ) QE) = Ev (QE (o0 :: o1 :: o2 :: o3 :: oo :: ρ)) := rfl
theorem ev_mov4 : Ev (eMov 4 (o0 :: o1 :: o2 :: o3 :: some d :: ρ) Q Qx) = Ev (Q d (o0 :: o1 :: o2 :: o3 :: none :: ρ)) := rfl
theorem ev_frz4 : Ev (eFrz 4 (o0 :: o1 :: o2 :: o3 :: some (.lst ma l) :: ρ) Q Qx) = Ev (OwsQ l (Q (.lst none l) (o0 :: o1 :: o2 :: o3 :: some (.lst none l) :: ρ))) := rfl
theorem ev_frzT4 : Ev (eFrz 4 (o0 :: o1 :: o2 :: o3 :: some (.tup l) :: ρ) Q Qx) = Ev (OwsQ l (Q (.tup l) (o0 :: o1 :: o2 :: o3 :: some (.tup l) :: ρ))) := rfl
theorem ev_lv4 : ∀ {f : Path → D → Prop}, Ev (lVar 4 (o0 :: o1 :: o2 :: o3 :: some d :: ρ) f) = Ev (f (4, []) d) := rfl
theorem ev_app2_4 : Ev (AppQ2 (4, []) a Q y (o0 :: o1 :: o2 :: o3 :: some (.lst (some a) l) :: ρ)) = (l.length < sizeLine ∧ Ev (Q .non (o0 :: o1 :: o2 :: o3 :: some (.lst (some a) (l ++ [y])) :: ρ))) := propext ⟨fun h => h.2, fun h => ⟨rfl, h⟩⟩
theorem ev_aug4 : Ev (sAug 4 g2 we ⟨nx, rt, bk, ct, xx⟩ (o0 :: o1 :: o2 :: o3 :: some (.int i) :: ρ)) = Ev (we (o0 :: o1 :: o2 :: o3 :: some (.int i) :: ρ) (AugQ i 4 g2 nx) xx) := rfl
theorem ev_augq4 : Ev (AugQ i 4 g2 nx (.int j) (o0 :: o1 :: o2 :: o3 :: o4 :: ρ)) = Ev (nx (o0 :: o1 :: o2 :: o3 :: some (.int (g2 i j)) :: ρ)) := rfl
theorem ev_setixn4 : Ev (SetIxN (some m) y a l (o0 :: o1 :: o2 :: o3 :: some d :: ρ) (4, []) nx) = Ev (nx (o0 :: o1 :: o2 :: o3 :: some (.lst (some a) (l.set m y)) :: ρ)) := rfl
theorem ev_popq4 : Ev (PopQ Q (o0 :: o1 :: o2 :: o3 :: some d :: ρ) (4, []) (.lst (some a) (l ++ [y]))) = Ev (OwsQ (l ++ [y]) (Q y (o0 :: o1 :: o2 :: o3 :: some (.lst (some a) l) :: ρ))) := propext ⟨fun h => ⟨h.1, by obtain ⟨_, y2, h2, h3⟩ := h; rw [List.getLast?_concat] at h2; cases h2; have h4 : Q y (setP _ _ (.lst (some a) (l ++ [y]).dropLast)) := h3; rw [List.dropLast_concat] at h4; exact h4⟩, fun h => ⟨h.1, y, List.getLast?_concat, by show Q y (setP _ _ (.lst (some a) (l ++ [y]).dropLast)); rw [List.dropLast_concat]; exact h.2⟩⟩
theorem ev_lend4 : Ev (resA (.lend (4, []) a :: as) (o0 :: o1 :: o2 :: o3 :: some d :: ρ) RE) = Ev (AdQ (addr d) a (resA as (o0 :: o1 :: o2 :: o3 :: some (lent a) :: ρ) fun ds ρ' => RE (d :: ds) ρ')) := rfl
theorem ev_giveL4 : Ev (giveA (.lend (4, []) a :: as) (d :: ds) (o0 :: o1 :: o2 :: o3 :: some (lent a) :: ρ) QE) = Ev (giveA as ds (o0 :: o1 :: o2 :: o3 :: some d :: ρ) QE) := propext ⟨fun h => h.2, fun h => ⟨rfl, h⟩⟩
theorem ev_var5 : Ev (pVar 5 (o0 :: o1 :: o2 :: o3 :: o4 :: some d :: ρ) R) = Ev (R d) := rfl
theorem ev_set5 : Ev (SetK 5 oo (o0 :: o1 :: o2 :: o3 :: o4 :: o5 :: ρ) QE) = Ev (QE (o0 :: o1 :: o2 :: o3 :: o4 :: oo :: ρ)) := rfl
theorem ev_mov5 : Ev (eMov 5 (o0 :: o1 :: o2 :: o3 :: o4 :: some d :: ρ) Q Qx) = Ev (Q d (o0 :: o1 :: o2 :: o3 :: o4 :: none :: ρ)) := rfl
theorem ev_frz5 : Ev (eFrz 5 (o0 :: o1 :: o2 :: o3 :: o4 :: some (.lst ma l) :: ρ) Q Qx) = Ev (OwsQ l (Q (.lst none l) (o0 :: o1 :: o2 :: o3 :: o4 :: some (.lst none l) :: ρ))) := rfl
theorem ev_frzT5 : Ev (eFrz 5 (o0 :: o1 :: o2 :: o3 :: o4 :: some (.tup l) :: ρ) Q Qx) = Ev (OwsQ l (Q (.tup l) (o0 :: o1 :: o2 :: o3 :: o4 :: some (.tup l) :: ρ))) := rfl
theorem ev_lv5 : ∀ {f : Path → D → Prop}, Ev (lVar 5 (o0 :: o1 :: o2 :: o3 :: o4 :: some d :: ρ) f) = Ev (f (5, []) d) := rfl
theorem ev_app2_5 : Ev (AppQ2 (5, []) a Q y (o0 :: o1 :: o2 :: o3 :: o4 :: some (.lst (some a) l) :: ρ)) = (l.length < sizeLine ∧ Ev (Q .non (o0 :: o1 :: o2 :: o3 :: o4 :: some (.lst (some a) (l ++ [y])) :: ρ))) := propext ⟨fun h => h.2, fun h => ⟨rfl, h⟩⟩
theorem ev_aug5 : Ev (sAug 5 g2 we ⟨nx, rt, bk, ct, xx⟩ (o0 :: o1 :: o2 :: o3 :: o4 :: some (.int i) :: ρ)) = Ev (we (o0 :: o1 :: o2 :: o3 :: o4 :: some (.int i) :: ρ) (AugQ i 5 g2 nx) xx) := rfl
theorem ev_augq5 : Ev (AugQ i 5 g2 nx (.int j) (o0 :: o1 :: o2 :: o3 :: o4 :: o5 :: ρ)) = Ev (nx (o0 :: o1 :: o2 :: o3 :: o4 :: some (.int (g2 i j)) :: ρ)) := rfl
theorem ev_setixn5 : Ev (SetIxN (some m) y a l (o0 :: o1 :: o2 :: o3 :: o4 :: some d :: ρ) (5, []) nx) = Ev (nx (o0 :: o1 :: o2 :: o3 :: o4 :: some (.lst (some a) (l.set m y)) :: ρ)) := rfl
theorem ev_popq5 : Ev (PopQ Q (o0 :: o1 :: o2 :: o3 :: o4 :: some d :: ρ) (5, []) (.lst (some a) (l ++ [y]))) = Ev (OwsQ (l ++ [y]) (Q y (o0 :: o1 :: o2 :: o3 :: o4 :: some (.lst (some a) l) :: ρ))) := propext ⟨fun h => ⟨h.1, by obtain ⟨_, y2, h2, h3⟩ := h; rw [List.getLast?_concat] at h2; cases h2; have h4 : Q y (setP _ _ (.lst (some a) (l ++ [y]).dropLast)) := h3; rw [List.dropLast_concat] at h4; exact h4⟩, fun h => ⟨h.1, y, List.getLast?_concat, by show Q y (setP _ _ (.lst (some a) (l ++ [y]).dropLast)); rw [List.dropLast_concat]; exact h.2⟩⟩
theorem ev_lend5 : Ev (resA (.lend (5, []) a :: as) (o0 :: o1 :: o2 :: o3 :: o4 :: some d :: ρ) RE) = Ev (AdQ (addr d) a (resA as (o0 :: o1 :: o2 :: o3 :: o4 :: some (lent a) :: ρ) fun ds ρ' => RE (d :: ds) ρ')) := rfl
theorem ev_giveL5 : Ev (giveA (.lend (5, []) a :: as) (d :: ds) (o0 :: o1 :: o2 :: o3 :: o4 :: some (lent a) :: ρ) QE) = Ev (giveA as ds (o0 :: o1 :: o2 :: o3 :: o4 :: some d :: ρ) QE) := propext ⟨fun h => h.2, fun h => ⟨rfl, h⟩⟩
theorem ev_var6 : Ev (pVar 6 (o0 :: o1 :: o2 :: o3 :: o4 :: o5 :: some d :: ρ) R) = Ev (R d) := rfl
theorem ev_set6 : Ev (SetK 6 oo (o0 :: o1 :: o2 :: o3 :: o4 :: o5 :: o6 :: ρ) QE) = Ev (QE (o0 :: o1 :: o2 :: o3 :: o4 :: o5 :: oo :: ρ)) := rfl
theorem ev_mov6 : Ev (eMov 6 (o0 :: o1 :: o2 :: o3 :: o4 :: o5 :: some d :: ρ) Q Qx) = Ev (Q d (o0 :: o1 :: o2 :: o3 :: o4 :: o5 :: none :: ρ)) := rfl
theorem ev_frz6 : Ev (eFrz 6 (o0 :: o1 :: o2 :: o3 :: o4 :: o5 :: some (.lst ma l) :: ρ) Q Qx) = Ev (OwsQ l (Q (.lst none l) (o0 :: o1 :: o2 :: o3 :: o4 :: o5 :: some (.lst none l) :: ρ))) := rfl
theorem ev_frzT6 : Ev (eFrz 6 (o0 :: o1 :: o2 :: o3 :: o4 :: o5 :: some (.tup l) :: ρ) Q Qx) = Ev (OwsQ l (Q (.tup l) (o0 :: o1 :: o2 :: o3 :: o4 :: o5 :: some (.tup l) :: ρ))) := rfl
theorem ev_lv6 : ∀ {f : Path → D → Prop}, Ev (lVar 6 (o0 :: o1 :: o2 :: o3 :: o4 :: o5 :: some d :: ρ) f) = Ev (f (6, []) d) := rfl
theorem ev_app2_6 : Ev (AppQ2 (6, []) a Q y (o0 :: o1 :: o2 :: o3 :: o4 :: o5 :: some (.lst (some a) l) :: ρ)) = (l.length < sizeLine ∧ Ev (Q .non (o0 :: o1 :: o2 :: o3 :: o4 :: o5 :: some (.lst (some a) (l ++ [y])) :: ρ))) := propext ⟨fun h => h.2, fun h => ⟨rfl, h⟩⟩
theorem ev_aug6 : Ev (sAug 6 g2 we ⟨nx, rt, bk, ct, xx⟩ (o0 :: o1 :: o2 :: o3 :: o4 :: o5 :: some (.int i) :: ρ)) = Ev (we (o0 :: o1 :: o2 :: o3 :: o4 :: o5 :: some (.int i) :: ρ) (AugQ i 6 g2 nx) xx) := rfl
theorem ev_augq6 : Ev (AugQ i 6 g2 nx (.int j) (o0 :: o1 :: o2 :: o3 :: o4 :: o5 :: o6 :: ρ)) = Ev (nx (o0 :: o1 :: o2 :: o3 :: o4 :: o5 :: some (.int (g2 i j)) :: ρ)) := rfl
theorem ev_setixn6 : Ev (SetIxN (some m) y a l (o0 :: o1 :: o2 :: o3 :: o4 :: o5 :: some d :: ρ) (6, []) nx) = Ev (nx (o0 :: o1 :: o2 :: o3 :: o4 :: o5 :: some (.lst (some a) (l.set m y)) :: ρ)) := rfl
theorem ev_popq6 : Ev (PopQ Q (o0 :: o1 :: o2 :: o3 :: o4 :: o5 :: some d :: ρ) (6, []) (.lst (some a) (l ++ [y]))) = Ev (OwsQ (l ++ [y]) (Q y (o0 :: o1 :: o2 :: o3 :: o4 :: o5 :: some (.lst (some a) l) :: ρ))) := propext ⟨fun h => ⟨h.1, by obtain ⟨_, y2, h2, h3⟩ := h; rw [List.getLast?_concat] at h2; cases h2; have h4 : Q y (setP _ _ (.lst (some a) (l ++ [y]).dropLast)) := h3; rw [List.dropLast_concat] at h4; exact h4⟩, fun h => ⟨h.1, y, List.getLast?_concat, by show Q y (setP _ _ (.lst (some a) (l ++ [y]).dropLast)); rw [List.dropLast_concat]; exact h.2⟩⟩
theorem ev_lend6 : Ev (resA (.lend (6, []) a :: as) (o0 :: o1 :: o2 :: o3 :: o4 :: o5 :: some d :: ρ) RE) = Ev (AdQ (addr d) a (resA as (o0 :: o1 :: o2 :: o3 :: o4 :: o5 :: some (lent a) :: ρ) fun ds ρ' => RE (d :: ds) ρ')) := rfl
theorem ev_giveL6 : Ev (giveA (.lend (6, []) a :: as) (d :: ds) (o0 :: o1 :: o2 :: o3 :: o4 :: o5 :: some (lent a) :: ρ) QE) = Ev (giveA as ds (o0 :: o1 :: o2 :: o3 :: o4 :: o5 :: some d :: ρ) QE) := propext ⟨fun h => h.2, fun h => ⟨rfl, h⟩⟩
theorem ev_var7 : Ev (pVar 7 (o0 :: o1 :: o2 :: o3 :: o4 :: o5 :: o6 :: some d :: ρ) R) = Ev (R d) := rfl
theorem ev_set7 : Ev (SetK 7 oo (o0 :: o1 :: o2 :: o3 :: o4 :: o5 :: o6 :: o7 :: ρ) QE) = Ev (QE (o0 :: o1 :: o2 :: o3 :: o4 :: o5 :: o6 :: oo :: ρ)) := rfl
theorem ev_mov7 : Ev (eMov 7 (o0 :: o1 :: o2 :: o3 :: o4 :: o5 :: o6 :: some d :: ρ) Q Qx) = Ev (Q d (o0 :: o1 :: o2 :: o3 :: o4 :: o5 :: o6 :: none :: ρ)) := rfl
theorem ev_frz7 : Ev (eFrz 7 (o0 :: o1 :: o2 :: o3 :: o4 :: o5 :: o6 :: some (.lst ma l) :: ρ) Q Qx) = Ev (OwsQ l (Q (.lst none l) (o0 :: o1 :: o2 :: o3 :: o4 :: o5 :: o6 :: some (.lst none l) :: ρ))) := rfl
theorem ev_frzT7 : Ev (eFrz 7 (o0 :: o1 :: o2 :: o3 :: o4 :: o5 :: o6 :: some (.tup l) :: ρ) Q Qx) = Ev (OwsQ l (Q (.tup l) (o0 :: o1 :: o2 :: o3 :: o4 :: o5 :: o6 :: some (.tup l) :: ρ))) := rfl
theorem ev_lv7 : ∀ {f : Path → D → Prop}, Ev (lVar 7 (o0 :: o1 :: o2 :: o3 :: o4 :: o5 :: o6 :: some d :: ρ) f) = Ev (f (7, []) d) := rfl
theorem ev_app2_7 : Ev (AppQ2 (7, []) a Q y (o0 :: o1 :: o2 :: o3 :: o4 :: o5 :: o6 :: some (.lst (some a) l) :: ρ)) = (l.length < sizeLine ∧ Ev (Q .non (o0 :: o1 :: o2 :: o3 :: o4 :: o5 :: o6 :: some (.lst (some a) (l ++ [y])) :: ρ))) := propext ⟨fun h => h.2, fun h => ⟨rfl, h⟩⟩
theorem ev_aug7 : Ev (sAug 7 g2 we ⟨nx, rt, bk, ct, xx⟩ (o0 :: o1 :: o2 :: o3 :: o4 :: o5 :: o6 :: some (.int i) :: ρ)) = Ev (we (o0 :: o1 :: o2 :: o3 :: o4 :: o5 :: o6 :: some (.int i) :: ρ) (AugQ i 7 g2 nx) xx) := rfl
theorem ev_augq7 : Ev (AugQ i 7 g2 nx (.int j) (o0 :: o1 :: o2 :: o3 :: o4 :: o5 :: o6 :: o7 :: ρ)) = Ev (nx (o0 :: o1 :: o2 :: o3 :: o4 :: o5 :: o6 :: some (.int (g2 i j)) :: ρ)) := rfl
theorem ev_setixn7 : Ev (SetIxN (some m) y a l (o0 :: o1 :: o2 :: o3 :: o4 :: o5 :: o6 :: some d :: ρ) (7, []) nx) = Ev (nx (o0 :: o1 :: o2 :: o3 :: o4 :: o5 :: o6 :: some (.lst (some a) (l.set m y)) :: ρ)) := rfl
theorem ev_popq7 : Ev (PopQ Q (o0 :: o1 :: o2 :: o3 :: o4 :: o5 :: o6 :: some d :: ρ) (7, []) (.lst (some a) (l ++ [y]))) = Ev (OwsQ (l ++ [y]) (Q y (o0 :: o1 :: o2 :: o3 :: o4 :: o5 :: o6 :: some (.lst (some a) l) :: ρ))) := propext ⟨fun h => ⟨h.1, by obtain ⟨_, y2, h2, h3⟩ := h; rw [List.getLast?_concat] at h2; cases h2; have h4 : Q y (setP _ _ (.lst (some a) (l ++ [y]).dropLast)) := h3; rw [List.dropLast_concat] at h4; exact h4⟩, fun h => ⟨h.1, y, List.getLast?_concat, by show Q y (setP _ _ (.lst (some a) (l ++ [y]).dropLast)); rw [List.dropLast_concat]; exact h.2⟩⟩
theorem ev_lend7 : Ev (resA (.lend (7, []) a :: as) (o0 :: o1 :: o2 :: o3 :: o4 :: o5 :: o6 :: some d :: ρ) RE) = Ev (AdQ (addr d) a (resA as (o0 :: o1 :: o2 :: o3 :: o4 :: o5 :: o6 :: some (lent a) :: ρ) fun ds ρ' => RE (d :: ds) ρ')) := rfl
theorem ev_giveL7 : Ev (giveA (.lend (7, []) a :: as) (d :: ds) (o0 :: o1 :: o2 :: o3 :: o4 :: o5 :: o6 :: some (lent a) :: ρ) QE) = Ev (giveA as ds (o0 :: o1 :: o2 :: o3 :: o4 :: o5 :: o6 :: some d :: ρ) QE) := propext ⟨fun h => h.2, fun h => ⟨rfl, h⟩⟩
theorem ev_var8 : Ev (pVar 8 (o0 :: o1 :: o2 :: o3 :: o4 :: o5 :: o6 :: o7 :: some d :: ρ) R) = Ev (R d) := rfl
theorem ev_set8 : Ev (SetK 8 oo (o0 :: o1 :: o2 :: o3 :: o4 :: o5 :: o6 :: o7 :: o8 :: ρ) QE) = Ev (QE (o0 :: o1 :: o2 :: o3 :: o4 :: o5 :: o6 :: o7 :: oo :: ρ)) := rfl
theorem ev_mov8 : Ev (eMov 8 (o0 :: o1 :: o2 :: o3 :: o4 :: o5 :: o6 :: o7 :: some d :: ρ) Q Qx) = Ev (Q d (o0 :: o1 :: o2 :: o3 :: o4 :: o5 :: o6 :: o7 :: none :: ρ)) := rfl
theorem ev_frz8 : Ev (eFrz 8 (o0 :: o1 :: o2 :: o3 :: o4 :: o5 :: o6 :: o7 :: some (.lst ma l) :: ρ) Q Qx) = Ev (OwsQ l (Q (.lst none l) (o0 :: o1 :: o2 :: o3 :: o4 :: o5 :: o6 :: o7 :: some (.lst none l) :: ρ))) := rfl
theorem ev_frzT8 : Ev (eFrz 8 (o0 :: o1 :: o2 :: o3 :: o4 :: o5 :: o6 :: o7 :: some (.tup l) :: ρ) Q Qx) = Ev (OwsQ l (Q (.tup l) (o0 :: o1 :: o2 :: o3 :: o4 :: o5 :: o6 :: o7 :: some (.tup l) :: ρ))) := rfl
theorem ev_lv8 : ∀ {f : Path → D → Prop}, Ev (lVar 8 (o0 :: o1 :: o2 :: o3 :: o4 :: o5 :: o6 :: o7 :: some d :: ρ) f) = Ev (f (8, []) d) := rfl
theorem ev_app2_8 : Ev (AppQ2 (8, []) a Q y (o0 :: o1 :: o2 :: o3 :: o4 :: o5 :: o6 :: o7 :: some (.lst (some a) l) :: ρ)) = (l.length < sizeLine ∧ Ev (Q .non (o0 :: o1 :: o2 :: o3 :: o4 :: o5 :: o6 :: o7 :: some (.lst (some a) (l ++ [y])) :: ρ))) := propext ⟨fun h => h.2, fun h => ⟨rfl, h⟩⟩
theorem ev_aug8 : Ev (sAug 8 g2 we ⟨nx, rt, bk, ct, xx⟩ (o0 :: o1 :: o2 :: o3 :: o4 :: o5 :: o6 :: o7 :: some (.int i) :: ρ)) = Ev (we (o0 :: o1 :: o2 :: o3 :: o4 :: o5 :: o6 :: o7 :: some (.int i) :: ρ) (AugQ i 8 g2 nx) xx) := rfl
theorem ev_augq8 : Ev (AugQ i 8 g2 nx (.int j) (o0 :: o1 :: o2 :: o3 :: o4 :: o5 :: o6 :: o7 :: o8 :: ρ)) = Ev (nx (o0 :: o1 :: o2 :: o3 :: o4 :: o5 :: o6 :: o7 :: some (.int (g2 i j)) :: ρ)) := rfl
theorem ev_setixn8 : Ev (SetIxN (some m) y a l (o0 :: o1 :: o2 :: o3 :: o4 :: o5 :: o6 :: o7 :: some d :: ρ) (8, []) nx) = Ev (nx (o0 :: o1 :: o2 :: o3 :: o4 :: o5 :: o6 :: o7 :: some (.lst (some a) (l.set m y)) :: ρ)) := rfl
theorem ev_popq8 : Ev (PopQ Q (o0 :: o1 :: o2 :: o3 :: o4 :: o5 :: o6 :: o7 :: some d :: ρ) (8, []) (.lst (some a) (l ++ [y]))) = Ev (OwsQ (l ++ [y]) (Q y (o0 :: o1 :: o2 :: o3 :: o4 :: o5 :: o6 :: o7 :: some (.lst (some a) l) :: ρ))) := propext ⟨fun h => ⟨h.1, by obtain ⟨_, y2, h2, h3⟩ := h; rw [List.getLast?_concat] at h2; cases h2; have h4 : Q y (setP _ _ (.lst (some a) (l ++ [y]).dropLast)) := h3; rw [List.dropLast_concat] at h4; exact h4⟩, fun h => ⟨h.1, y, List.getLast?_concat, by show Q y (setP _ _ (.lst (some a) (l ++ [y]).dropLast)); rw [List.dropLast_concat]; exact h.2⟩⟩
theorem ev_lend8 : Ev (resA (.lend (8, []) a :: as) (o0 :: o1 :: o2 :: o3 :: o4 :: o5 :: o6 :: o7 :: some d :: ρ) RE) = Ev (AdQ (addr d) a (resA as (o0 :: o1 :: o2 :: o3 :: o4 :: o5 :: o6 :: o7 :: some (lent a) :: ρ) fun ds ρ' => RE (d :: ds) ρ')) := rfl
theorem ev_giveL8 : Ev (giveA (.lend (8, []) a :: as) (d :: ds) (o0 :: o1 :: o2 :: o3 :: o4 :: o5 :: o6 :: o7 :: some (lent a) :: ρ) QE) = Ev (giveA as ds (o0 :: o1 :: o2 :: o3 :: o4 :: o5 :: o6 :: o7 :: some d :: ρ) QE) := propext ⟨fun h => h.2, fun h => ⟨rfl, h⟩⟩
theorem ev_var9 : Ev (pVar 9 (o0 :: o1 :: o2 :: o3 :: o4 :: o5 :: o6 :: o7 :: o8 :: some d :: ρ) R) = Ev (R d) := rfl
theorem ev_set9 : Ev (SetK 9 oo (o0 :: o1 :: o2 :: o3 :: o4 :: o5 :: o6 :: o7 :: o8 :: o9 :: ρ) QE) = Ev (QE (o0 :: o1 :: o2 :: o3 :: o4 :: o5 :: o6 :: o7 :: o8 :: oo :: ρ)) := rfl
theorem ev_mov9 : Ev (eMov 9 (o0 :: o1 :: o2 :: o3 :: o4 :: o5 :: o6 :: o7 :: o8 :: some d :: ρ) Q Qx) = Ev (Q d (o0 :: o1 :: o2 :: o3 :: o4 :: o5 :: o6 :: o7 :: o8 :: none :: ρ)) := rfl
theorem ev_frz9 : Ev (eFrz 9 (o0 :: o1 :: o2 :: o3 :: o4 :: o5 :: o6 :: o7 :: o8 :: some (.lst ma l) :: ρ) Q Qx) = Ev (OwsQ l (Q (.lst none l) (o0 :: o1 :: o2 :: o3 :: o4 :: o5 :: o6 :: o7 :: o8 :: some (.lst none l) :: ρ))) := rfl
theorem ev_frzT9 : Ev (eFrz 9 (o0 :: o1 :: o2 :: o3 :: o4 :: o5 :: o6 :: o7 :: o8 :: some (.tup l) :: ρ) Q Qx) = Ev (OwsQ l (Q (.tup l) (o0 :: o1 :: o2 :: o3 :: o4 :: o5 :: o6 :: o7 :: o8 :: some (.tup l) :: ρ))) := rfl
theorem ev_lv9 : ∀ {f : Path → D → Prop}, Ev (lVar 9 (o0 :: o1 :: o2 :: o3 :: o4 :: o5 :: o6 :: o7 :: o8 :: some d :: ρ) f) = Ev (f (9, []) d) := rfl
theorem ev_app2_9 : Ev (AppQ2 (9, []) a Q y (o0 :: o1 :: o2 :: o3 :: o4 :: o5 :: o6 :: o7 :: o8 :: some (.lst (some a) l) :: ρ)) = (l.length < sizeLine ∧ Ev (Q .non (o0 :: o1 :: o2 :: o3 :: o4 :: o5 :: o6 :: o7 :: o8 :: some (.lst (some a) (l ++ [y])) :: ρ))) := propext ⟨fun h => h.2, fun h => ⟨rfl, h⟩⟩
theorem ev_aug9 : Ev (sAug 9 g2 we ⟨nx, rt, bk, ct, xx⟩ (o0 :: o1 :: o2 :: o3 :: o4 :: o5 :: o6 :: o7 :: o8 :: some (.int i) :: ρ)) = Ev (we (o0 :: o1 :: o2 :: o3 :: o4 :: o5 :: o6 :: o7 :: o8 :: some (.int i) :: ρ) (AugQ i 9 g2 nx) xx) := rfl
theorem ev_augq9 : Ev (AugQ i 9 g2 nx (.int j) (o0 :: o1 :: o2 :: o3 :: o4 :: o5 :: o6 :: o7 :: o8 :: o9 :: ρ)) = Ev (nx (o0 :: o1 :: o2 :: o3 :: o4 :: o5 :: o6 :: o7 :: o8 :: some (.int (g2 i j)) :: ρ)) := rfl
theorem ev_setixn9 : Ev (SetIxN (some m) y a l (o0 :: o1 :: o2 :: o3 :: o4 :: o5 :: o6 :: o7 :: o8 :: some d :: ρ) (9, []) nx) = Ev (nx (o0 :: o1 :: o2 :: o3 :: o4 :: o5 :: o6 :: o7 :: o8 :: some (.lst (some a) (l.set m y)) :: ρ)) := rfl
theorem ev_popq9 : Ev (PopQ Q (o0 :: o1 :: o2 :: o3 :: o4 :: o5 :: o6 :: o7 :: o8 :: some d :: ρ) (9, []) (.lst (some a) (l ++ [y]))) = Ev (OwsQ (l ++ [y]) (Q y (o0 :: o1 :: o2 :: o3 :: o4 :: o5 :: o6 :: o7 :: o8 :: some (.lst (some a) l) :: ρ))) := propext ⟨fun h => ⟨h.1, by obtain ⟨_, y2, h2, h3⟩ := h; rw [List.getLast?_concat] at h2; cases h2; have h4 : Q y (setP _ _ (.lst (some a) (l ++ [y]).dropLast)) := h3; rw [List.dropLast_concat] at h4; exact h4⟩, fun h => ⟨h.1, y, List.getLast?_concat, by show Q y (setP _ _ (.lst (some a) (l ++ [y]).dropLast)); rw [List.dropLast_concat]; exact h.2⟩⟩
theorem ev_lend9 : Ev (resA (.lend (9, []) a :: as) (o0 :: o1 :: o2 :: o3 :: o4 :: o5 :: o6 :: o7 :: o8 :: some d :: ρ) RE) = Ev (AdQ (addr d) a (resA as (o0 :: o1 :: o2 :: o3 :: o4 :: o5 :: o6 :: o7 :: o8 :: some (lent a) :: ρ) fun ds ρ' => RE (d :: ds) ρ')) := rfl
theorem ev_giveL9 : Ev (giveA (.lend (9, []) a :: as) (d :: ds) (o0 :: o1 :: o2 :: o3 :: o4 :: o5 :: o6 :: o7 :: o8 :: some (lent a) :: ρ) QE) = Ev (giveA as ds (o0 :: o1 :: o2 :: o3 :: o4 :: o5 :: o6 :: o7 :: o8 :: some d :: ρ) QE) := propext ⟨fun h => h.2, fun h => ⟨rfl, h⟩⟩
theorem ev_var10 : Ev (pVar 10 (o0 :: o1 :: o2 :: o3 :: o4 :: o5 :: o6 :: o7 :: o8 :: o9 :: some d :: ρ) R) = Ev (R d) := rfl
theorem ev_set10 : Ev (SetK 10 oo (o0 :: o1 :: o2 :: o3 :: o4 :: o5 :: o6 :: o7 :: o8 :: o9 :: o10 :: ρ) QE) = Ev (QE (o0 :: o1 :: o2 :: o3 :: o4 :: o5 :: o6 :: o7 :: o8 :: o9 :: oo :: ρ)) := rfl
theorem ev_mov10 : Ev (eMov 10 (o0 :: o1 :: o2 :: o3 :: o4 :: o5 :: o6 :: o7 :: o8 :: o9 :: some d :: ρ) Q Qx) = Ev (Q d (o0 :: o1 :: o2 :: o3 :: o4 :: o5 :: o6 :: o7 :: o8 :: o9 :: none :: ρ)) := rfl
theorem ev_frz10 : Ev (eFrz 10 (o0 :: o1 :: o2 :: o3 :: o4 :: o5 :: o6 :: o7 :: o8 :: o9 :: some (.lst ma l) :: ρ) Q Qx) = Ev (OwsQ l (Q (.lst none l) (o0 :: o1 :: o2 :: o3 :: o4 :: o5 :: o6 :: o7 :: o8 :: o9 :: some (.lst none l) :: ρ))) := rfl
theorem ev_frzT10 : Ev (eFrz 10 (o0 :: o1 :: o2 :: o3 :: o4 :: o5 :: o6 :: o7 :: o8 :: o9 :: some (.tup l) :: ρ) Q Qx) = Ev (OwsQ l (Q (.tup l) (o0 :: o1 :: o2 :: o3 :: o4 :: o5 :: o6 :: o7 :: o8 :: o9 :: some (.tup l) :: ρ))) := rfl
theorem ev_lv10 : ∀ {f : Path → D → Prop}, Ev (lVar 10 (o0 :: o1 :: o2 :: o3 :: o4 :: o5 :: o6 :: o7 :: o8 :: o9 :: some d :: ρ) f) = Ev (f (10, []) d) := rfl
theorem ev_app2_10 : Ev (AppQ2 (10, []) a Q y (o0 :: o1 :: o2 :: o3 :: o4 :: o5 :: o6 :: o7 :: o8 :: o9 :: some (.lst (some a) l) :: ρ)) = (l.length < sizeLine ∧ Ev (Q .non (o0 :: o1 :: o2 :: o3 :: o4 :: o5 :: o6 :: o7 :: o8 :: o9 :: some (.lst (some a) (l ++ [y])) :: ρ))) := propext ⟨fun h => h.2, fun h => ⟨rfl, h⟩⟩
theorem ev_aug10 : Ev (sAug 10 g2 we ⟨nx, rt, bk, ct, xx⟩ (o0 :: o1 :: o2 :: o3 :: o4 :: o5 :: o6 :: o7 :: o8 :: o9 :: some (.int i) :: ρ)) = Ev (we (o0 :: o1 :: o2 :: o3 :: o4 :: o5 :: o6 :: o7 :: o8 :: o9 :: some (.int i) :: ρ) (AugQ i 10 g2 nx) xx) := rfl
theorem ev_augq10 : Ev (AugQ i 10 g2 nx (.int j) (o0 :: o1 :: o2 :: o3 :: o4 :: o5 :: o6 :: o7 :: o8 :: o9 :: o10 :: ρ)) = Ev (nx (o0 :: o1 :: o2 :: o3 :: o4 :: o5 :: o6 :: o7 :: o8 :: o9 :: some (.int (g2 i j)) :: ρ)) := rfl
theorem ev_setixn10 : Ev (SetIxN (some m) y a l (o0 :: o1 :: o2 :: o3 :: o4 :: o5 :: o6 :: o7 :: o8 :: o9 :: some d :: ρ) (10, []) nx) = Ev (nx (o0 :: o1 :: o2 :: o3 :: o4 :: o5 :: o6 :: o7 :: o8 :: o9 :: some (.lst (some a) (l.set m y)) :: ρ)) := rfl
theorem ev_popq10 : Ev (PopQ Q (o0 :: o1 :: o2 :: o3 :: o4 :: o5 :: o6 :: o7 :: o8 :: o9 :: some d :: ρ) (10, []) (.lst (some a) (l ++ [y]))) = Ev (OwsQ (l ++ [y]) (Q y (o0 :: o1 :: o2 :: o3 :: o4 :: o5 :: o6 :: o7 :: o8 :: o9 :: some (.lst (some a) l) :: ρ))) := propext ⟨fun h => ⟨h.1, by obtain ⟨_, y2, h2, h3⟩ := h; rw [List.getLast?_concat] at h2; cases h2; have h4 : Q y (setP _ _ (.lst (some a) (l ++ [y]).dropLast)) := h3; rw [List.dropLast_concat] at h4; exact h4⟩, fun h => ⟨h.1, y, List.getLast?_concat, by show Q y (setP _ _ (.lst (some a) (l ++ [y]).dropLast)); rw [List.dropLast_concat]; exact h.2⟩⟩
theorem ev_lend10 : Ev (resA (.lend (10, []) a :: as) (o0 :: o1 :: o2 :: o3 :: o4 :: o5 :: o6 :: o7 :: o8 :: o9 :: some d :: ρ) RE) = Ev (AdQ (addr d) a (resA as (o0 :: o1 :: o2 :: o3 :: o4 :: o5 :: o6 :: o7 :: o8 :: o9 :: some (lent a) :: ρ) fun ds ρ' => RE (d :: ds) ρ')) := rfl
theorem ev_giveL10 : Ev (giveA (.lend (10, []) a :: as) (d :: ds) (o0 :: o1 :: o2 :: o3 :: o4 :: o5 :: o6 :: o7 :: o8 :: o9 :: some (lent a) :: ρ) QE) = Ev (giveA as ds (o0 :: o1 :: o2 :: o3 :: o4 :: o5 :: o6 :: o7 :: o8 :: o9 :: some d :: ρ) QE) := propext ⟨fun h => h.2, fun h => ⟨rfl, h⟩⟩
theorem ev_var11 : Ev (pVar 11 (o0 :: o1 :: o2 :: o3 :: o4 :: o5 :: o6 :: o7 :: o8 :: o9 :: o10 :: some d :: ρ) R) = Ev (R d) := rfl
theorem ev_set11 : Ev (SetK 11 oo (o0 :: o1 :: o2 :: o3 :: o4 :: o5 :: o6 :: o7 :: o8 :: o9 :: o10 :: o11 :: ρ) QE) = Ev (QE (o0 :: o1 :: o2 :: o3 :: o4 :: o5 :: o6 :: o7 :: o8 :: o9 :: o10 :: oo :: ρ)) := rfl
theorem ev_mov11 : Ev (eMov 11 (o0 :: o1 :: o2 :: o3 :: o4 :: o5 :: o6 :: o7 :: o8 :: o9 :: o10 :: some d :: ρ) Q Qx) = Ev (Q d (o0 :: o1 :: o2 :: o3 :: o4 :: o5 :: o6 :: o7 :: o8 :: o9 :: o10 :: none :: ρ)) := rfl
theorem ev_frz11 : Ev (eFrz 11 (o0 :: o1 :: o2 :: o3 :: o4 :: o5 :: o6 :: o7 :: o8 :: o9 :: o10 :: some (.lst ma l) :: ρ) Q Qx) = Ev (OwsQ l (Q (.lst none l) (o0 :: o1 :: o2 :: o3 :: o4 :: o5 :: o6 :: o7 :: o8 :: o9 :: o10 :: some (.lst none l) :: ρ))) := rfl
theorem ev_frzT11 : Ev (eFrz 11 (o0 :: o1 :: o2 :: o3 :: o4 :: o5 :: o6 :: o7 :: o8 :: o9 :: o10 :: some (.tup l) :: ρ) Q Qx) = Ev (OwsQ l (Q (.tup l) (o0 :: o1 :: o2 :: o3 :: o4 :: o5 :: o6 :: o7 :: o8 :: o9 :: o10 :: some (.tup l) :: ρ))) := rfl
theorem ev_lv11 : ∀ {f : Path → D → Prop}, Ev (lVar 11 (o0 :: o1 :: o2 :: o3 :: o4 :: o5 :: o6 :: o7 :: o8 :: o9 :: o10 :: some d :: ρ) f) = Ev (f (11, []) d) := rfl
theorem ev_app2_11 : Ev (AppQ2 (11, []) a Q y (o0 :: o1 :: o2 :: o3 :: o4 :: o5 :: o6 :: o7 :: o8 :: o9 :: o10 :: some (.lst (some a) l) :: ρ)) = (l.length < sizeLine ∧ Ev (Q .non (o0 :: o1 :: o2 :: o3 :: o4 :: o5 :: o6 :: o7 :: o8 :: o9 :: o10 :: some (.lst (some a) (l ++ [y])) :: ρ))) := propext ⟨fun h => h.2, fun h => ⟨rfl, h⟩⟩
theorem ev_aug11 : Ev (sAug 11 g2 we ⟨nx, rt, bk, ct, xx⟩ (o0 :: o1 :: o2 :: o3 :: o4 :: o5 :: o6 :: o7 :: o8 :: o9 :: o10 :: some (.int i) :: ρ)) = Ev (we (o0 :: o1 :: o2 :: o3 :: o4 :: o5 :: o6 :: o7 :: o8 :: o9 :: o10 :: some (.int i) :: ρ) (AugQ i 11 g2 nx) xx) := rfl
theorem ev_augq11 : Ev (AugQ i 11 g2 nx (.int j) (o0 :: o1 :: o2 :: o3 :: o4 :: o5 :: o6 :: o7 :: o8 :: o9 :: o10 :: o11 :: ρ)) = Ev (nx (o0 :: o1 :: o2 :: o3 :: o4 :: o5 :: o6 :: o7 :: o8 :: o9 :: o10 :: some (.int (g2 i j)) :: ρ)) := rfl
theorem ev_setixn11 : Ev (SetIxN (some m) y a l (o0 :: o1 :: o2 :: o3 :: o4 :: o5 :: o6 :: o7 :: o8 :: o9 :: o10 :: some d :: ρ) (11, []) nx) = Ev (nx (o0 :: o1 :: o2 :: o3 :: o4 :: o5 :: o6 :: o7 :: o8 :: o9 :: o10 :: some (.lst (some a) (l.set m y)) :: ρ)) := rfl
theorem ev_popq11 : Ev (PopQ Q (o0 :: o1 :: o2 :: o3 :: o4 :: o5 :: o6 :: o7 :: o8 :: o9 :: o10 :: some d :: ρ) (11, []) (.lst (some a) (l ++ [y]))) = Ev (OwsQ (l ++ [y]) (Q y (o0 :: o1 :: o2 :: o3 :: o4 :: o5 :: o6 :: o7 :: o8 :: o9 :: o10 :: some (.lst (some a) l) :: ρ))) := propext ⟨fun h => ⟨h.1, by obtain ⟨_, y2, h2, h3⟩ := h; rw [List.getLast?_concat] at h2; cases h2; have h4 : Q y (setP _ _ (.lst (some a) (l ++ [y]).dropLast)) := h3; rw [List.dropLast_concat] at h4; exact h4⟩, fun h => ⟨h.1, y, List.getLast?_concat, by show Q y (setP _ _ (.lst (some a) (l ++ [y]).dropLast)); rw [List.dropLast_concat]; exact h.2⟩⟩
theorem ev_lend11 : Ev (resA (.lend (11, []) a :: as) (o0 :: o1 :: o2 :: o3 :: o4 :: o5 :: o6 :: o7 :: o8 :: o9 :: o10 :: some d :: ρ) RE) = Ev (AdQ (addr d) a (resA as (o0 :: o1 :: o2 :: o3 :: o4 :: o5 :: o6 :: o7 :: o8 :: o9 :: o10 :: some (lent a) :: ρ) fun ds ρ' => RE (d :: ds) ρ')) := rfl
theorem ev_giveL11 : Ev (giveA (.lend (11, []) a :: as) (d :: ds) (o0 :: o1 :: o2 :: o3 :: o4 :: o5 :: o6 :: o7 :: o8 :: o9 :: o10 :: some (lent a) :: ρ) QE) = Ev (giveA as ds (o0 :: o1 :: o2 :: o3 :: o4 :: o5 :: o6 :: o7 :: o8 :: o9 :: o10 :: some d :: ρ) QE) := propext ⟨fun h => h.2, fun h => ⟨rfl, h⟩⟩
theorem ev_var12 : Ev (pVar 12 (o0 :: o1 :: o2 :: o3 :: o4 :: o5 :: o6 :: o7 :: o8 :: o9 :: o10 :: o11 :: some d :: ρ) R) = Ev (R d) := rfl
theorem ev_set12 : Ev (SetK 12 oo (o0 :: o1 :: o2 :: o3 :: o4 :: o5 :: o6 :: o7 :: o8 :: o9 :: o10 :: o11 :: o12 :: ρ) QE) = Ev (QE (o0 :: o1 :: o2 :: o3 :: o4 :: o5 :: o6 :: o7 :: o8 :: o9 :: o10 :: o11 :: oo :: ρ)) := rfl
theorem ev_mov12 : Ev (eMov 12 (o0 :: o1 :: o2 :: o3 :: o4 :: o5 :: o6 :: o7 :: o8 :: o9 :: o10 :: o11 :: some d :: ρ) Q Qx) = Ev (Q d (o0 :: o1 :: o2 :: o3 :: o4 :: o5 :: o6 :: o7 :: o8 :: o9 :: o10 :: o11 :: none :: ρ)) := rfl
theorem ev_frz12 : Ev (eFrz 12 (o0 :: o1 :: o2 :: o3 :: o4 :: o5 :: o6 :: o7 :: o8 :: o9 :: o10 :: o11 :: some (.lst ma l) :: ρ) Q Qx) = Ev (OwsQ l (Q (.lst none l) (o0 :: o1 :: o2 :: o3 :: o4 :: o5 :: o6 :: o7 :: o8 :: o9 :: o10 :: o11 :: some (.lst none l) :: ρ))) := rfl
theorem ev_frzT12 : Ev (eFrz 12 (o0 :: o1 :: o2 :: o3 :: o4 :: o5 :: o6 :: o7 :: o8 :: o9 :: o10 :: o11 :: some (.tup l) :: ρ) Q Qx) = Ev (OwsQ l (Q (.tup l) (o0 :: o1 :: o2 :: o3 :: o4 :: o5 :: o6 :: o7 :: o8 :: o9 :: o10 :: o11 :: some (.tup l) :: ρ))) := rfl
theorem ev_lv12 : ∀ {f : Path → D → Prop}, Ev (lVar 12 (o0 :: o1 :: o2 :: o3 :: o4 :: o5 :: o6 :: o7 :: o8 :: o9 :: o10 :: o11 :: some d :: ρ) f) = Ev (f (12, []) d) := rfl
theorem ev_app2_12 : Ev (AppQ2 (12, []) a Q y (o0 :: o1 :: o2 :: o3 :: o4 :: o5 :: o6 :: o7 :: o8 :: o9 :: o10 :: o11 :: some (.lst (some a) l) :: ρ)) = (l.length < sizeLine ∧ Ev (Q .non (o0 :: o1 :: o2 :: o3 :: o4 :: o5 :: o6 :: o7 :: o8 :: o9 :: o10 :: o11 :: some (.lst (some a) (l ++ [y])) :: ρ))) := propext ⟨fun h => h.2, fun h => ⟨rfl, h⟩⟩
theorem ev_aug12 : Ev (sAug 12 g2 we ⟨nx, rt, bk, ct, xx⟩ (o0 :: o1 :: o2 :: o3 :: o4 :: o5 :: o6 :: o7 :: o8 :: o9 :: o10 :: o11 :: some (.int i) :: ρ)) = Ev (we (o0 :: o1 :: o2 :: o3 :: o4 :: o5 :: o6 :: o7 :: o8 :: o9 :: o10 :: o11 :: some (.int i) :: ρ) (AugQ i 12 g2 nx) xx) := rfl
theorem ev_augq12 : Ev (AugQ i 12 g2 nx (.int j) (o0 :: o1 :: o2 :: o3 :: o4 :: o5 :: o6 :: o7 :: o8 :: o9 :: o10 :: o11 :: o12 :: ρ)) = Ev (nx (o0 :: o1 :: o2 :: o3 :: o4 :: o5 :: o6 :: o7 :: o8 :: o9 :: o10 :: o11 :: some (.int (g2 i j)) :: ρ)) := rfl
theorem ev_setixn12 : Ev (SetIxN (some m) y a l (o0 :: o1 :: o2 :: o3 :: o4 :: o5 :: o6 :: o7 :: o8 :: o9 :: o10 :: o11 :: some d :: ρ) (12, []) nx) = Ev (nx (o0 :: o1 :: o2 :: o3 :: o4 :: o5 :: o6 :: o7 :: o8 :: o9 :: o10 :: o11 :: some (.lst (some a) (l.set m y)) :: ρ)) := rfl
theorem ev_popq12 : Ev (PopQ Q (o0 :: o1 :: o2 :: o3 :: o4 :: o5 :: o6 :: o7 :: o8 :: o9 :: o10 :: o11 :: some d :: ρ) (12, []) (.lst (some a) (l ++ [y]))) = Ev (OwsQ (l ++ [y]) (Q y (o0 :: o1 :: o2 :: o3 :: o4 :: o5 :: o6 :: o7 :: o8 :: o9 :: o10 :: o11 :: some (.lst (some a) l) :: ρ))) := propext ⟨fun h => ⟨h.1, by obtain ⟨_, y2, h2, h3⟩ := h; rw [List.getLast?_concat] at h2; cases h2; have h4 : Q y (setP _ _ (.lst (some a) (l ++ [y]).dropLast)) := h3; rw [List.dropLast_concat] at h4; exact h4⟩, fun h => ⟨h.1, y, List.getLast?_concat, by show Q y (setP _ _ (.lst (some a) (l ++ [y]).dropLast)); rw [List.dropLast_concat]; exact h.2⟩⟩
theorem ev_lend12 : Ev (resA (.lend (12, []) a :: as) (o0 :: o1 :: o2 :: o3 :: o4 :: o5 :: o6 :: o7 :: o8 :: o9 :: o10 :: o11 :: some d :: ρ) RE) = Ev (AdQ (addr d) a (resA as (o0 :: o1 :: o2 :: o3 :: o4 :: o5 :: o6 :: o7 :: o8 :: o9 :: o10 :: o11 :: some (lent a) :: ρ) fun ds ρ' => RE (d :: ds) ρ')) := rfl
theorem ev_giveL12 : Ev (giveA (.lend (12, []) a :: as) (d :: ds) (o0 :: o1 :: o2 :: o3 :: o4 :: o5 :: o6 :: o7 :: o8 :: o9 :: o10 :: o11 :: some (lent a) :: ρ) QE) = Ev (giveA as ds (o0 :: o1 :: o2 :: o3 :: o4 :: o5 :: o6 :: o7 :: o8 :: o9 :: o10 :: o11 :: some d :: ρ) QE) := propext ⟨fun h => h.2, fun h => ⟨rfl, h⟩⟩
theorem ev_var13 : Ev (pVar 13 (o0 :: o1 :: o2 :: o3 :: o4 :: o5 :: o6 :: o7 :: o8 :: o9 :: o10 :: o11 :: o12 :: some d :: ρ) R) = Ev (R d) := rfl
theorem ev_set13 : Ev (SetK 13 oo (o0 :: o1 :: o2 :: o3 :: o4 :: o5 :: o6 :: o7 :: o8 :: o9 :: o10 :: o11 :: o12 :: o13 :: ρ) QE) = Ev (QE (o0 :: o1 :: o2 :: o3 :: o4 :: o5 :: o6 :: o7 :: o8 :: o9 :: o10 :: o11 :: o12 :: oo :: ρ)) := rfl
theorem ev_mov13 : Ev (eMov 13 (o0 :: o1 :: o2 :: o3 :: o4 :: o5 :: o6 :: o7 :: o8 :: o9 :: o10 :: o11 :: o12 :: some d :: ρ) Q Qx) = Ev (Q d (o0 :: o1 :: o2 :: o3 :: o4 :: o5 :: o6 :: o7 :: o8 :: o9 :: o10 :: o11 :: o12 :: none :: ρ)) := rfl
theorem ev_frz13 : Ev (eFrz 13 (o0 :: o1 :: o2 :: o3 :: o4 :: o5 :: o6 :: o7 :: o8 :: o9 :: o10 :: o11 :: o12 :: some (.lst ma l) :: ρ) Q Qx) = Ev (OwsQ l (Q (.lst none l) (o0 :: o1 :: o2 :: o3 :: o4 :: o5 :: o6 :: o7 :: o8 :: o9 :: o10 :: o11 :: o12 :: some (.lst none l) :: ρ))) := rfl
theorem ev_frzT13 : Ev (eFrz 13 (o0 :: o1 :: o2 :: o3 :: o4 :: o5 :: o6 :: o7 :: o8 :: o9 :: o10 :: o11 :: o12 :: some (.tup l) :: ρ) Q Qx) = Ev (OwsQ l (Q (.tup l) (o0 :: o1 :: o2 :: o3 :: o4 :: o5 :: o6 :: o7 :: o8 :: o9 :: o10 :: o11 :: o12 :: some (.tup l) :: ρ))) := rfl
theorem ev_lv13 : ∀ {f : Path → D → Prop}, Ev (lVar 13 (o0 :: o1 :: o2 :: o3 :: o4 :: o5 :: o6 :: o7 :: o8 :: o9 :: o10 :: o11 :: o12 :: some d :: ρ) f) = Ev (f (13, []) d) := rfl
theorem ev_app2_13 : Ev (AppQ2 (13, []) a Q y (o0 :: o1 :: o2 :: o3 :: o4 :: o5 :: o6 :: o7 :: o8 :: o9 :: o10 :: o11 :: o12 :: some (.lst (some a) l) :: ρ)) = (l.length < sizeLine ∧ Ev (Q .non (o0 :: o1 :: o2 :: o3 :: o4 :: o5 :: o6 :: o7 :: o8 :: o9 :: o10 :: o11 :: o12 :: some (.lst (some a) (l ++ [y])) :: ρ))) := propext ⟨fun h => h.2, fun h => ⟨rfl, h⟩⟩
theorem ev_aug13 : Ev (sAug 13 g2 we ⟨nx, rt, bk, ct, xx⟩ (o0 :: o1 :: o2 :: o3 :: o4 :: o5 :: o6 :: o7 :: o8 :: o9 :: o10 :: o11 :: o12 :: some (.int i) :: ρ)) = Ev (we (o0 :: o1 :: o2 :: o3 :: o4 :: o5 :: o6 :: o7 :: o8 :: o9 :: o10 :: o11 :: o12 :: some (.int i) :: ρ) (AugQ i 13 g2 nx) xx) := rfl
theorem ev_augq13 : Ev (AugQ i 13 g2 nx (.int j) (o0 :: o1 :: o2 :: o3 :: o4 :: o5 :: o6 :: o7 :: o8 :: o9 :: o10 :: o11 :: o12 :: o13 :: ρ)) = Ev (nx (o0 :: o1 :: o2 :: o3 :: o4 :: o5 :: o6 :: o7 :: o8 :: o9 :: o10 :: o11 :: o12 :: some (.int (g2 i j)) :: ρ)) := rfl
theorem ev_setixn13 : Ev (SetIxN (some m) y a l (o0 :: o1 :: o2 :: o3 :: o4 :: o5 :: o6 :: o7 :: o8 :: o9 :: o10 :: o11 :: o12 :: some d :: ρ) (13, []) nx) = Ev (nx (o0 :: o1 :: o2 :: o3 :: o4 :: o5 :: o6 :: o7 :: o8 :: o9 :: o10 :: o11 :: o12 :: some (.lst (some a) (l.set m y)) :: ρ)) := rfl
theorem ev_popq13 : Ev (PopQ Q (o0 :: o1 :: o2 :: o3 :: o4 :: o5 :: o6 :: o7 :: o8 :: o9 :: o10 :: o11 :: o12 :: some d :: ρ) (13, []) (.lst (some a) (l ++ [y]))) = Ev (OwsQ (l ++ [y]) (Q y (o0 :: o1 :: o2 :: o3 :: o4 :: o5 :: o6 :: o7 :: o8 :: o9 :: o10 :: o11 :: o12 :: some (.lst (some a) l) :: ρ))) := propext ⟨fun h => ⟨h.1, by obtain ⟨_, y2, h2, h3⟩ := h; rw [List.getLast?_concat] at h2; cases h2; have h4 : Q y (setP _ _ (.lst (some a) (l ++ [y]).dropLast)) := h3; rw [List.dropLast_concat] at h4; exact h4⟩, fun h => ⟨h.1, y, List.getLast?_concat, by show Q y (setP _ _ (.lst (some a) (l ++ [y]).dropLast)); rw [List.dropLast_concat]; exact h.2⟩⟩
theorem ev_lend13 : Ev (resA (.lend (13, []) a :: as) (o0 :: o1 :: o2 :: o3 :: o4 :: o5 :: o6 :: o7 :: o8 :: o9 :: o10 :: o11 :: o12 :: some d :: ρ) RE) = Ev (AdQ (addr d) a (resA as (o0 :: o1 :: o2 :: o3 :: o4 :: o5 :: o6 :: o7 :: o8 :: o9 :: o10 :: o11 :: o12 :: some (lent a) :: ρ) fun ds ρ' => RE (d :: ds) ρ')) := rfl
theorem ev_giveL13 : Ev (giveA (.lend (13, []) a :: as) (d :: ds) (o0 :: o1 :: o2 :: o3 :: o4 :: o5 :: o6 :: o7 :: o8 :: o9 :: o10 :: o11 :: o12 :: some (lent a) :: ρ) QE) = Ev (giveA as ds (o0 :: o1 :: o2 :: o3 :: o4 :: o5 :: o6 :: o7 :: o8 :: o9 :: o10 :: o11 :: o12 :: some d :: ρ) QE) := propext ⟨fun h => h.2, fun h => ⟨rfl, h⟩⟩
theorem ev_var14 : Ev (pVar 14 (o0 :: o1 :: o2 :: o3 :: o4 :: o5 :: o6 :: o7 :: o8 :: o9 :: o10 :: o11 :: o12 :: o13 :: some d :: ρ) R) = Ev (R d) := rfl
theorem ev_set14 : Ev (SetK 14 oo (o0 :: o1 :: o2 :: o3 :: o4 :: o5 :: o6 :: o7 :: o8 :: o9 :: o10 :: o11 :: o12 :: o13 :: o14 :: ρ) QE) = Ev (QE (o0 :: o1 :: o2 :: o3 :: o4 :: o5 :: o6 :: o7 :: o8 :: o9 :: o10 :: o11 :: o12 :: o13 :: oo :: ρ)) := rfl
theorem ev_mov14 : Ev (eMov 14 (o0 :: o1 :: o2 :: o3 :: o4 :: o5 :: o6 :: o7 :: o8 :: o9 :: o10 :: o11 :: o12 :: o13 :: some d :: ρ) Q Qx) = Ev (Q d (o0 :: o1 :: o2 :: o3 :: o4 :: o5 :: o6 :: o7 :: o8 :: o9 :: o10 :: o11 :: o12 :: o13 :: none :: ρ)) := rfl
theorem ev_frz14 : Ev (eFrz 14 (o0 :: o1 :: o2 :: o3 :: o4 :: o5 :: o6 :: o7 :: o8 :: o9 :: o10 :: o11 :: o12 :: o13 :: some (.lst ma l) :: ρ) Q Qx) = Ev (OwsQ l (Q (.lst none l) (o0 :: o1 :: o2 :: o3 :: o4 :: o5 :: o6 :: o7 :: o8 :: o9 :: o10 :: o11 :: o12 :: o13 :: some (.lst none l) :: ρ))) := rfl
theorem ev_frzT14 : Ev (eFrz 14 (o0 :: o1 :: o2 :: o3 :: o4 :: o5 :: o6 :: o7 :: o8 :: o9 :: o10 :: o11 :: o12 :: o13 :: some (.tup l) :: ρ) Q Qx) = Ev (OwsQ l (Q (.tup l) (o0 :: o1 :: o2 :: o3 :: o4 :: o5 :: o6 :: o7 :: o8 :: o9 :: o10 :: o11 :: o12 :: o13 :: some (.tup l) :: ρ))) := rfl
theorem ev_lv14 : ∀ {f : Path → D → Prop}, Ev (lVar 14 (o0 :: o1 :: o2 :: o3 :: o4 :: o5 :: o6 :: o7 :: o8 :: o9 :: o10 :: o11 :: o12 :: o13 :: some d :: ρ) f) = Ev (f (14, []) d) := rfl
theorem ev_app2_14 : Ev (AppQ2 (14, []) a Q y (o0 :: o1 :: o2 :: o3 :: o4 :: o5 :: o6 :: o7 :: o8 :: o9 :: o10 :: o11 :: o12 :: o13 :: some (.lst (some a) l) :: ρ)) = (l.length < sizeLine ∧ Ev (Q .non (o0 :: o1 :: o2 :: o3 :: o4 :: o5 :: o6 :: o7 :: o8 :: o9 :: o10 :: o11 :: o12 :: o13 :: some (.lst (some a) (l ++ [y])) :: ρ))) := propext ⟨fun h => h.2, fun h => ⟨rfl, h⟩⟩
theorem ev_aug14 : Ev (sAug 14 g2 we ⟨nx, rt, bk, ct, xx⟩ (o0 :: o1 :: o2 :: o3 :: o4 :: o5 :: o6 :: o7 :: o8 :: o9 :: o10 :: o11 :: o12 :: o13 :: some (.int i) :: ρ)) = Ev (we (o0 :: o1 :: o2 :: o3 :: o4 :: o5 :: o6 :: o7 :: o8 :: o9 :: o10 :: o11 :: o12 :: o13 :: some (.int i) :: ρ) (AugQ i 14 g2 nx) xx) := rfl
theorem ev_augq14 : Ev (AugQ i 14 g2 nx (.int j) (o0 :: o1 :: o2 :: o3 :: o4 :: o5 :: o6 :: o7 :: o8 :: o9 :: o10 :: o11 :: o12 :: o13 :: o14 :: ρ)) = Ev (nx (o0 :: o1 :: o2 :: o3 :: o4 :: o5 :: o6 :: o7 :: o8 :: o9 :: o10 :: o11 :: o12 :: o13 :: some (.int (g2 i j)) :: ρ)) := rfl
theorem ev_setixn14 : Ev (SetIxN (some m) y a l (o0 :: o1 :: o2 :: o3 :: o4 :: o5 :: o6 :: o7 :: o8 :: o9 :: o10 :: o11 :: o12 :: o13 :: some d :: ρ) (14, []) nx) = Ev (nx (o0 :: o1 :: o2 :: o3 :: o4 :: o5 :: o6 :: o7 :: o8 :: o9 :: o10 :: o11 :: o12 :: o13 :: some (.lst (some a) (l.set m y)) :: ρ)) := rfl
theorem ev_popq14 : Ev (PopQ Q (o0 :: o1 :: o2 :: o3 :: o4 :: o5 :: o6 :: o7 :: o8 :: o9 :: o10 :: o11 :: o12 :: o13 :: some d :: ρ) (14, []) (.lst (some a) (l ++ [y]))) = Ev (OwsQ (l ++ [y]) (Q y (o0 :: o1 :: o2 :: o3 :: o4 :: o5 :: o6 :: o7 :: o8 :: o9 :: o10 :: o11 :: o12 :: o13 :: some (.lst (some a) l) :: ρ))) := propext ⟨fun h => ⟨h.1, by obtain ⟨_, y2, h2, h3⟩ := h; rw [List.getLast?_concat] at h2; cases h2; have h4 : Q y (setP _ _ (.lst (some a) (l ++ [y]).dropLast)) := h3; rw [List.dropLast_concat] at h4; exact h4⟩, fun h => ⟨h.1, y, List.getLast?_concat, by show Q y (setP _ _ (.lst (some a) (l ++ [y]).dropLast)); rw [List.dropLast_concat]; exact h.2⟩⟩
theorem ev_lend14 : Ev (resA (.lend (14, []) a :: as) (o0 :: o1 :: o2 :: o3 :: o4 :: o5 :: o6 :: o7 :: o8 :: o9 :: o10 :: o11 :: o12 :: o13 :: some d :: ρ) RE) = Ev (AdQ (addr d) a (resA as (o0 :: o1 :: o2 :: o3 :: o4 :: o5 :: o6 :: o7 :: o8 :: o9 :: o10 :: o11 :: o12 :: o13 :: some (lent a) :: ρ) fun ds ρ' => RE (d :: ds) ρ')) := rfl
theorem ev_giveL14 : Ev (giveA (.lend (14, []) a :: as) (d :: ds) (o0 :: o1 :: o2 :: o3 :: o4 :: o5 :: o6 :: o7 :: o8 :: o9 :: o10 :: o11 :: o12 :: o13 :: some (lent a) :: ρ) QE) = Ev (giveA as ds (o0 :: o1 :: o2 :: o3 :: o4 :: o5 :: o6 :: o7 :: o8 :: o9 :: o10 :: o11 :: o12 :: o13 :: some d :: ρ) QE) := propext ⟨fun h => h.2, fun h => ⟨rfl, h⟩⟩
theorem ev_var15 : Ev (pVar 15 (o0 :: o1 :: o2 :: o3 :: o4 :: o5 :: o6 :: o7 :: o8 :: o9 :: o10 :: o11 :: o12 :: o13 :: o14 :: some d :: ρ) R) = Ev (R d) := rfl
theorem ev_set15 : Ev (SetK 15 oo (o0 :: o1 :: o2 :: o3 :: o4 :: o5 :: o6 :: o7 :: o8 :: o9 :: o10 :: o11 :: o12 :: o13 :: o14 :: o15 :: ρ) QE) = Ev (QE (o0 :: o1 :: o2 :: o3 :: o4 :: o5 :: o6 :: o7 :: o8 :: o9 :: o10 :: o11 :: o12 :: o13 :: o14 :: oo :: ρ)) := rfl
theorem ev_mov15 : Ev (eMov 15 (o0 :: o1 :: o2 :: o3 :: o4 :: o5 :: o6 :: o7 :: o8 :: o9 :: o10 :: o11 :: o12 :: o13 :: o14 :: some d :: ρ) Q Qx) = Ev (Q d (o0 :: o1 :: o2 :: o3 :: o4 :: o5 :: o6 :: o7 :: o8 :: o9 :: o10 :: o11 :: o12 :: o13 :: o14 :: none :: ρ)) := rfl
theorem ev_frz15 : Ev (eFrz 15 (o0 :: o1 :: o2 :: o3 :: o4 :: o5 :: o6 :: o7 :: o8 :: o9 :: o10 :: o11 :: o12 :: o13 :: o14 :: some (.lst ma l) :: ρ) Q Qx) = Ev (OwsQ l (Q (.lst none l) (o0 :: o1 :: o2 :: o3 :: o4 :: o5 :: o6 :: o7 :: o8 :: o9 :: o10 :: o11 :: o12 :: o13 :: o14 :: some (.lst none l) :: ρ))) := rfl
theorem ev_frzT15 : Ev (eFrz 15 (o0 :: o1 :: o2 :: o3 :: o4 :: o5 :: o6 :: o7 :: o8 :: o9 :: o10 :: o11 :: o12 :: o13 :: o14 :: some (.tup l) :: ρ) Q Qx) = Ev (OwsQ l (Q (.tup l) (o0 :: o1 :: o2 :: o3 :: o4 :: o5 :: o6 :: o7 :: o8 :: o9 :: o10 :: o11 :: o12 :: o13 :: o14 :: some (.tup l) :: ρ))) := rfl
theorem ev_lv15 : ∀ {f : Path → D → Prop}, Ev (lVar 15 (o0 :: o1 :: o2 :: o3 :: o4 :: o5 :: o6 :: o7 :: o8 :: o9 :: o10 :: o11 :: o12 :: o13 :: o14 :: some d :: ρ) f) = Ev (f (15, []) d) := rfl
theorem ev_app2_15 : Ev (AppQ2 (15, []) a Q y (o0 :: o1 :: o2 :: o3 :: o4 :: o5 :: o6 :: o7 :: o8 :: o9 :: o10 :: o11 :: o12 :: o13 :: o14 :: some (.lst (some a) l) :: ρ)) = (l.length < sizeLine ∧ Ev (Q .non (o0 :: o1 :: o2 :: o3 :: o4 :: o5 :: o6 :: o7 :: o8 :: o9 :: o10 :: o11 :: o12 :: o13 :: o14 :: some (.lst (some a) (l ++ [y])) :: ρ))) := propext ⟨fun h => h.2, fun h => ⟨rfl, h⟩⟩
theorem ev_aug15 : Ev (sAug 15 g2 we ⟨nx, rt, bk, ct, xx⟩ (o0 :: o1 :: o2 :: o3 :: o4 :: o5 :: o6 :: o7 :: o8 :: o9 :: o10 :: o11 :: o12 :: o13 :: o14 :: some (.int i) :: ρ)) = Ev (we (o0 :: o1 :: o2 :: o3 :: o4 :: o5 :: o6 :: o7 :: o8 :: o9 :: o10 :: o11 :: o12 :: o13 :: o14 :: some (.int i) :: ρ) (AugQ i 15 g2 nx) xx) := rfl
theorem ev_augq15 : Ev (AugQ i 15 g2 nx (.int j) (o0 :: o1 :: o2 :: o3 :: o4 :: o5 :: o6 :: o7 :: o8 :: o9 :: o10 :: o11 :: o12 :: o13 :: o14 :: o15 :: ρ)) = Ev (nx (o0 :: o1 :: o2 :: o3 :: o4 :: o5 :: o6 :: o7 :: o8 :: o9 :: o10 :: o11 :: o12 :: o13 :: o14 :: some (.int (g2 i j)) :: ρ)) := rfl
theorem ev_setixn15 : Ev (SetIxN (some m) y a l (o0 :: o1 :: o2 :: o3 :: o4 :: o5 :: o6 :: o7 :: o8 :: o9 :: o10 :: o11 :: o12 :: o13 :: o14 :: some d :: ρ) (15, []) nx) = Ev (nx (o0 :: o1 :: o2 :: o3 :: o4 :: o5 :: o6 :: o7 :: o8 :: o9 :: o10 :: o11 :: o12 :: o13 :: o14 :: some (.lst (some a) (l.set m y)) :: ρ)) := rfl
theorem ev_popq15 : Ev (PopQ Q (o0 :: o1 :: o2 :: o3 :: o4 :: o5 :: o6 :: o7 :: o8 :: o9 :: o10 :: o11 :: o12 :: o13 :: o14 :: some d :: ρ) (15, []) (.lst (some a) (l ++ [y]))) = Ev (OwsQ (l ++ [y]) (Q y (o0 :: o1 :: o2 :: o3 :: o4 :: o5 :: o6 :: o7 :: o8 :: o9 :: o10 :: o11 :: o12 :: o13 :: o14 :: some (.lst (some a) l) :: ρ))) := propext ⟨fun h => ⟨h.1, by obtain ⟨_, y2, h2, h3⟩ := h; rw [List.getLast?_concat] at h2; cases h2; have h4 : Q y (setP _ _ (.lst (some a) (l ++ [y]).dropLast)) := h3; rw [List.dropLast_concat] at h4; exact h4⟩, fun h => ⟨h.1, y, List.getLast?_concat, by show Q y (setP _ _ (.lst (some a) (l ++ [y]).dropLast)); rw [List.dropLast_concat]; exact h.2⟩⟩
theorem ev_lend15 : Ev (resA (.lend (15, []) a :: as) (o0 :: o1 :: o2 :: o3 :: o4 :: o5 :: o6 :: o7 :: o8 :: o9 :: o10 :: o11 :: o12 :: o13 :: o14 :: some d :: ρ) RE) = Ev (AdQ (addr d) a (resA as (o0 :: o1 :: o2 :: o3 :: o4 :: o5 :: o6 :: o7 :: o8 :: o9 :: o10 :: o11 :: o12 :: o13 :: o14 :: some (lent a) :: ρ) fun ds ρ' => RE (d :: ds) ρ')) := rfl
theorem ev_giveL15 : Ev (giveA (.lend (15, []) a :: as) (d :: ds) (o0 :: o1 :: o2 :: o3 :: o4 :: o5 :: o6 :: o7 :: o8 :: o9 :: o10 :: o11 :: o12 :: o13 :: o14 :: some (lent a) :: ρ) QE) = Ev (giveA as ds (o0 :: o1 :: o2 :: o3 :: o4 :: o5 :: o6 :: o7 :: o8 :: o9 :: o10 :: o11 :: o12 :: o13 :: o14 :: some d :: ρ) QE) := propext ⟨fun h => h.2, fun h => ⟨rfl, h⟩⟩
theorem ev_var16 : Ev (pVar 16 (o0 :: o1 :: o2 :: o3 :: o4 :: o5 :: o6 :: o7 :: o8 :: o9 :: o10 :: o11 :: o12 :: o13 :: o14 :: o15 :: some d :: ρ) R) = Ev (R d) := rfl
theorem ev_set16 : Ev (SetK 16 oo (o0 :: o1 :: o2 :: o3 :: o4 :: o5 :: o6 :: o7 :: o8 :: o9 :: o10 :: o11 :: o12 :: o13 :: o14 :: o15 :: o16 :: ρ) QE) = Ev (QE (o0 :: o1 :: o2 :: o3 :: o4 :: o5 :: o6 :: o7 :: o8 :: o9 :: o10 :: o11 :: o12 :: o13 :: o14 :: o15 :: oo :: ρ)) := rfl
theorem ev_mov16 : Ev (eMov 16 (o0 :: o1 :: o2 :: o3 :: o4 :: o5 :: o6 :: o7 :: o8 :: o9 :: o10 :: o11 :: o12 :: o13 :: o14 :: o15 :: some d :: ρ) Q Qx) = Ev (Q d (o0 :: o1 :: o2 :: o3 :: o4 :: o5 :: o6 :: o7 :: o8 :: o9 :: o10 :: o11 :: o12 :: o13 :: o14 :: o15 :: none :: ρ)) := rfl
theorem ev_frz16 : Ev (eFrz 16 (o0 :: o1 :: o2 :: o3 :: o4 :: o5 :: o6 :: o7 :: o8 :: o9 :: o10 :: o11 :: o12 :: o13 :: o14 :: o15 :: some (.lst ma l) :: ρ) Q Qx) = Ev (OwsQ l (Q (.lst none l) (o0 :: o1 :: o2 :: o3 :: o4 :: o5 :: o6 :: o7 :: o8 :: o9 :: o10 :: o11 :: o12 :: o13 :: o14 :: o15 :: some (.lst none l) :: ρ))) := rfl
theorem ev_frzT16 : Ev (eFrz 16 (o0 :: o1 :: o2 :: o3 :: o4 :: o5 :: o6 :: o7 :: o8 :: o9 :: o10 :: o11 :: o12 :: o13 :: o14 :: o15 :: some (.tup l) :: ρ) Q Qx) = Ev (OwsQ l (Q (.tup l) (o0 :: o1 :: o2 :: o3 :: o4 :: o5 :: o6 :: o7 :: o8 :: o9 :: o10 :: o11 :: o12 :: o13 :: o14 :: o15 :: some (.tup l) :: ρ))) := rfl
theorem ev_lv16 : ∀ {f : Path → D → Prop}, Ev (lVar 16 (o0 :: o1 :: o2 :: o3 :: o4 :: o5 :: o6 :: o7 :: o8 :: o9 :: o10 :: o11 :: o12 :: o13 :: o14 :: o15 :: some d :: ρ) f) = Ev (f (16, []) d) := rfl
theorem ev_app2_16 : Ev (AppQ2 (16, []) a Q y (o0 :: o1 :: o2 :: o3 :: o4 :: o5 :: o6 :: o7 :: o8 :: o9 :: o10 :: o11 :: o12 :: o13 :: o14 :: o15 :: some (.lst (some a) l) :: ρ)) = (l.length < sizeLine ∧ Ev (Q .non (o0 :: o1 :: o2 :: o3 :: o4 :: o5 :: o6 :: o7 :: o8 :: o9 :: o10 :: o11 :: o12 :: o13 :: o14 :: o15 :: some (.lst (some a) (l ++ [y])) :: ρ))) := propext ⟨fun h => h.2, fun h => ⟨rfl, h⟩⟩
theorem ev_aug16 : Ev (sAug 16 g2 we ⟨nx, rt, bk, ct, xx⟩ (o0 :: o1 :: o2 :: o3 :: o4 :: o5 :: o6 :: o7 :: o8 :: o9 :: o10 :: o11 :: o12 :: o13 :: o14 :: o15 :: some (.int i) :: ρ)) = Ev (we (o0 :: o1 :: o2 :: o3 :: o4 :: o5 :: o6 :: o7 :: o8 :: o9 :: o10 :: o11 :: o12 :: o13 :: o14 :: o15 :: some (.int i) :: ρ) (AugQ i 16 g2 nx) xx) := rfl
theorem ev_augq16 : Ev (AugQ i 16 g2 nx (.int j) (o0 :: o1 :: o2 :: o3 :: o4 :: o5 :: o6 :: o7 :: o8 :: o9 :: o10 :: o11 :: o12 :: o13 :: o14 :: o15 :: o16 :: ρ)) = Ev (nx (o0 :: o1 :: o2 :: o3 :: o4 :: o5 :: o6 :: o7 :: o8 :: o9 :: o10 :: o11 :: o12 :: o13 :: o14 :: o15 :: some (.int (g2 i j)) :: ρ)) := rfl
theorem ev_setixn16 : Ev (SetIxN (some m) y a l (o0 :: o1 :: o2 :: o3 :: o4 :: o5 :: o6 :: o7 :: o8 :: o9 :: o10 :: o11 :: o12 :: o13 :: o14 :: o15 :: some d :: ρ) (16, []) nx) = Ev (nx (o0 :: o1 :: o2 :: o3 :: o4 :: o5 :: o6 :: o7 :: o8 :: o9 :: o10 :: o11 :: o12 :: o13 :: o14 :: o15 :: some (.lst (some a) (l.set m y)) :: ρ)) := rfl
theorem ev_popq16 : Ev (PopQ Q (o0 :: o1 :: o2 :: o3 :: o4 :: o5 :: o6 :: o7 :: o8 :: o9 :: o10 :: o11 :: o12 :: o13 :: o14 :: o15 :: some d :: ρ) (16, []) (.lst (some a) (l ++ [y]))) = Ev (OwsQ (l ++ [y]) (Q y (o0 :: o1 :: o2 :: o3 :: o4 :: o5 :: o6 :: o7 :: o8 :: o9 :: o10 :: o11 :: o12 :: o13 :: o14 :: o15 :: some (.lst (some a) l) :: ρ))) := propext ⟨fun h => ⟨h.1, by obtain ⟨_, y2, h2, h3⟩ := h; rw [List.getLast?_concat] at h2; cases h2; have h4 : Q y (setP _ _ (.lst (some a) (l ++ [y]).dropLast)) := h3; rw [List.dropLast_concat] at h4; exact h4⟩, fun h => ⟨h.1, y, List.getLast?_concat, by show Q y (setP _ _ (.lst (some a) (l ++ [y]).dropLast)); rw [List.dropLast_concat]; exact h.2⟩⟩
theorem ev_lend16 : Ev (resA (.lend (16, []) a :: as) (o0 :: o1 :: o2 :: o3 :: o4 :: o5 :: o6 :: o7 :: o8 :: o9 :: o10 :: o11 :: o12 :: o13 :: o14 :: o15 :: some d :: ρ) RE) = Ev (AdQ (addr d) a (resA as (o0 :: o1 :: o2 :: o3 :: o4 :: o5 :: o6 :: o7 :: o8 :: o9 :: o10 :: o11 :: o12 :: o13 :: o14 :: o15 :: some (lent a) :: ρ) fun ds ρ' => RE (d :: ds) ρ')) := rfl
theorem ev_giveL16 : Ev (giveA (.lend (16, []) a :: as) (d :: ds) (o0 :: o1 :: o2 :: o3 :: o4 :: o5 :: o6 :: o7 :: o8 :: o9 :: o10 :: o11 :: o12 :: o13 :: o14 :: o15 :: some (lent a) :: ρ) QE) = Ev (giveA as ds (o0 :: o1 :: o2 :: o3 :: o4 :: o5 :: o6 :: o7 :: o8 :: o9 :: o10 :: o11 :: o12 :: o13 :: o14 :: o15 :: some d :: ρ) QE) := propext ⟨fun h => h.2, fun h => ⟨rfl, h⟩⟩
theorem ev_var17 : Ev (pVar 17 (o0 :: o1 :: o2 :: o3 :: o4 :: o5 :: o6 :: o7 :: o8 :: o9 :: o10 :: o11 :: o12 :: o13 :: o14 :: o15 :: o16 :: some d :: ρ) R) = Ev (R d) := rfl
theorem ev_set17 : Ev (SetK 17 oo (o0 :: o1 :: o2 :: o3 :: o4 :: o5 :: o6 :: o7 :: o8 :: o9 :: o10 :: o11 :: o12 :: o13 :: o14 :: o15 :: o16 :: o17 :: ρ) QE) = Ev (QE (o0 :: o1 :: o2 :: o3 :: o4 :: o5 :: o6 :: o7 :: o8 :: o9 :: o10 :: o11 :: o12 :: o13 :: o14 :: o15 :: o16 :: oo :: ρ)) := rfl
theorem ev_mov17 : Ev (eMov 17 (o0 :: o1 :: o2 :: o3 :: o4 :: o5 :: o6 :: o7 :: o8 :: o9 :: o10 :: o11 :: o12 :: o13 :: o14 :: o15 :: o16 :: some d :: ρ) Q Qx) = Ev (Q d (o0 :: o1 :: o2 :: o3 :: o4 :: o5 :: o6 :: o7 :: o8 :: o9 :: o10 :: o11 :: o12 :: o13 :: o14 :: o15 :: o16 :: none :: ρ)) := rfl
theorem ev_frz17 : Ev (eFrz 17 (o0 :: o1 :: o2 :: o3 :: o4 :: o5 :: o6 :: o7 :: o8 :: o9 :: o10 :: o11 :: o12 :: o13 :: o14 :: o15 :: o16 :: some (.lst ma l) :: ρ) Q Qx) = Ev (OwsQ l (Q (.lst none l) (o0 :: o1 :: o2 :: o3 :: o4 :: o5 :: o6 :: o7 :: o8 :: o9 :: o10 :: o11 :: o12 :: o13 :: o14 :: o15 :: o16 :: some (.lst none l) :: ρ))) := rfl
theorem ev_frzT17 : Ev (eFrz 17 (o0 :: o1 :: o2 :: o3 :: o4 :: o5 :: o6 :: o7 :: o8 :: o9 :: o10 :: o11 :: o12 :: o13 :: o14 :: o15 :: o16 :: some (.tup l) :: ρ) Q Qx) = Ev (OwsQ l (Q (.tup l) (o0 :: o1 :: o2 :: o3 :: o4 :: o5 :: o6 :: o7 :: o8 :: o9 :: o10 :: o11 :: o12 :: o13 :: o14 :: o15 :: o16 :: some (.tup l) :: ρ))) := rfl
theorem ev_lv17 : ∀ {f : Path → D → Prop}, Ev (lVar 17 (o0 :: o1 :: o2 :: o3 :: o4 :: o5 :: o6 :: o7 :: o8 :: o9 :: o10 :: o11 :: o12 :: o13 :: o14 :: o15 :: o16 :: some d :: ρ) f) = Ev (f (17, []) d) := rfl
theorem ev_app2_17 : Ev (AppQ2 (17, []) a Q y (o0 :: o1 :: o2 :: o3 :: o4 :: o5 :: o6 :: o7 :: o8 :: o9 :: o10 :: o11 :: o12 :: o13 :: o14 :: o15 :: o16 :: some (.lst (some a) l) :: ρ)) = (l.length < sizeLine ∧ Ev (Q .non (o0 :: o1 :: o2 :: o3 :: o4 :: o5 :: o6 :: o7 :: o8 :: o9 :: o10 :: o11 :: o12 :: o13 :: o14 :: o15 :: o16 :: some (.lst (some a) (l ++ [y])) :: ρ))) := propext ⟨fun h => h.2, fun h => ⟨rfl, h⟩⟩
theorem ev_aug17 : Ev (sAug 17 g2 we ⟨nx, rt, bk, ct, xx⟩ (o0 :: o1 :: o2 :: o3 :: o4 :: o5 :: o6 :: o7 :: o8 :: o9 :: o10 :: o11 :: o12 :: o13 :: o14 :: o15 :: o16 :: some (.int i) :: ρ)) = Ev (we (o0 :: o1 :: o2 :: o3 :: o4 :: o5 :: o6 :: o7 :: o8 :: o9 :: o10 :: o11 :: o12 :: o13 :: o14 :: o15 :: o16 :: some (.int i) :: ρ) (AugQ i 17 g2 nx) xx) := rfl
theorem ev_augq17 : Ev (AugQ i 17 g2 nx (.int j) (o0 :: o1 :: o2 :: o3 :: o4 :: o5 :: o6 :: o7 :: o8 :: o9 :: o10 :: o11 :: o12 :: o13 :: o14 :: o15 :: o16 :: o17 :: ρ)) = Ev (nx (o0 :: o1 :: o2 :: o3 :: o4 :: o5 :: o6 :: o7 :: o8 :: o9 :: o10 :: o11 :: o12 :: o13 :: o14 :: o15 :: o16 :: some (.int (g2 i j)) :: ρ)) := rfl
theorem ev_setixn17 : Ev (SetIxN (some m) y a l (o0 :: o1 :: o2 :: o3 :: o4 :: o5 :: o6 :: o7 :: o8 :: o9 :: o10 :: o11 :: o12 :: o13 :: o14 :: o15 :: o16 :: some d :: ρ) (17, []) nx) = Ev (nx (o0 :: o1 :: o2 :: o3 :: o4 :: o5 :: o6 :: o7 :: o8 :: o9 :: o10 :: o11 :: o12 :: o13 :: o14 :: o15 :: o16 :: some (.lst (some a) (l.set m y)) :: ρ)) := rfl
theorem ev_popq17 : Ev (PopQ Q (o0 :: o1 :: o2 :: o3 :: o4 :: o5 :: o6 :: o7 :: o8 :: o9 :: o10 :: o11 :: o12 :: o13 :: o14 :: o15 :: o16 :: some d :: ρ) (17, []) (.lst (some a) (l ++ [y]))) = Ev (OwsQ (l ++ [y]) (Q y (o0 :: o1 :: o2 :: o3 :: o4 :: o5 :: o6 :: o7 :: o8 :: o9 :: o10 :: o11 :: o12 :: o13 :: o14 :: o15 :: o16 :: some (.lst (some a) l) :: ρ))) := propext ⟨fun h => ⟨h.1, by obtain ⟨_, y2, h2, h3⟩ := h; rw [List.getLast?_concat] at h2; cases h2; have h4 : Q y (setP _ _ (.lst (some a) (l ++ [y]).dropLast)) := h3; rw [List.dropLast_concat] at h4; exact h4⟩, fun h => ⟨h.1, y, List.getLast?_concat, by show Q y (setP _ _ (.lst (some a) (l ++ [y]).dropLast)); rw [List.dropLast_concat]; exact h.2⟩⟩
theorem ev_lend17 : Ev (resA (.lend (17, []) a :: as) (o0 :: o1 :: o2 :: o3 :: o4 :: o5 :: o6 :: o7 :: o8 :: o9 :: o10 :: o11 :: o12 :: o13 :: o14 :: o15 :: o16 :: some d :: ρ) RE) = Ev (AdQ (addr d) a (resA as (o0 :: o1 :: o2 :: o3 :: o4 :: o5 :: o6 :: o7 :: o8 :: o9 :: o10 :: o11 :: o12 :: o13 :: o14 :: o15 :: o16 :: some (lent a) :: ρ) fun ds ρ' => RE (d :: ds) ρ')) := rfl
theorem ev_giveL17 : Ev (giveA (.lend (17, []) a :: as) (d :: ds) (o0 :: o1 :: o2 :: o3 :: o4 :: o5 :: o6 :: o7 :: o8 :: o9 :: o10 :: o11 :: o12 :: o13 :: o14 :: o15 :: o16 :: some (lent a) :: ρ) QE) = Ev (giveA as ds (o0 :: o1 :: o2 :: o3 :: o4 :: o5 :: o6 :: o7 :: o8 :: o9 :: o10 :: o11 :: o12 :: o13 :: o14 :: o15 :: o16 :: some d :: ρ) QE) := propext ⟨fun h => h.2, fun h => ⟨rfl, h⟩⟩
theorem ev_var18 : Ev (pVar 18 (o0 :: o1 :: o2 :: o3 :: o4 :: o5 :: o6 :: o7 :: o8 :: o9 :: o10 :: o11 :: o12 :: o13 :: o14 :: o15 :: o16 :: o17 :: some d :: ρ) R) = Ev (R d) := rfl
theorem ev_set18 : Ev (SetK 18 oo (o0 :: o1 :: o2 :: o3 :: o4 :: o5 :: o6 :: o7 :: o8 :: o9 :: o10 :: o11 :: o12 :: o13 :: o14 :: o15 :: o16 :: o17 :: o18 :: ρ) QE) = Ev (QE (o0 :: o1 :: o2 :: o3 :: o4 :: o5 :: o6 :: o7 :: o8 :: o9 :: o10 :: o11 :: o12 :: o13 :: o14 :: o15 :: o16 :: o17 :: oo :: ρ)) := rfl
theorem ev_mov18 : Ev (eMov 18 (o0 :: o1 :: o2 :: o3 :: o4 :: o5 :: o6 :: o7 :: o8 :: o9 :: o10 :: o11 :: o12 :: o13 :: o14 :: o15 :: o16 :: o17 :: some d :: ρ) Q Qx) = Ev (Q d (o0 :: o1 :: o2 :: o3 :: o4 :: o5 :: o6 :: o7 :: o8 :: o9 :: o10 :: o11 :: o12 :: o13 :: o14 :: o15 :: o16 :: o17 :: none :: ρ)) := rfl
theorem ev_frz18 : Ev (eFrz 18 (o0 :: o1 :: o2 :: o3 :: o4 :: o5 :: o6 :: o7 :: o8 :: o9 :: o10 :: o11 :: o12 :: o13 :: o14 :: o15 :: o16 :: o17 :: some (.lst ma l) :: ρ) Q Qx) = Ev (OwsQ l (Q (.lst none l) (o0 :: o1 :: o2 :: o3 :: o4 :: o5 :: o6 :: o7 :: o8 :: o9 :: o10 :: o11 :: o12 :: o13 :: o14 :: o15 :: o16 :: o17 :: some (.lst none l) :: ρ))) := rfl
theorem ev_frzT18 : Ev (eFrz 18 (o0 :: o1 :: o2 :: o3 :: o4 :: o5 :: o6 :: o7 :: o8 :: o9 :: o10 :: o11 :: o12 :: o13 :: o14 :: o15 :: o16 :: o17 :: some (.tup l) :: ρ) Q Qx) = Ev (OwsQ l (Q (.tup l) (o0 :: o1 :: o2 :: o3 :: o4 :: o5 :: o6 :: o7 :: o8 :: o9 :: o10 :: o11 :: o12 :: o13 :: o14 :: o15 :: o16 :: o17 :: some (.tup l) :: ρ))) := rfl
theorem ev_lv18 : ∀ {f : Path → D → Prop}, Ev (lVar 18 (o0 :: o1 :: o2 :: o3 :: o4 :: o5 :: o6 :: o7 :: o8 :: o9 :: o10 :: o11 :: o12 :: o13 :: o14 :: o15 :: o16 :: o17 :: some d :: ρ) f) = Ev (f (18, []) d) := rfl
theorem ev_app2_18 : Ev (AppQ2 (18, []) a Q y (o0 :: o1 :: o2 :: o3 :: o4 :: o5 :: o6 :: o7 :: o8 :: o9 :: o10 :: o11 :: o12 :: o13 :: o14 :: o15 :: o16 :: o17 :: some (.lst (some a) l) :: ρ)) = (l.length < sizeLine ∧ Ev (Q .non (o0 :: o1 :: o2 :: o3 :: o4 :: o5 :: o6 :: o7 :: o8 :: o9 :: o10 :: o11 :: o12 :: o13 :: o14 :: o15 :: o16 :: o17 :: some (.lst (some a) (l ++ [y])) :: ρ))) := propext ⟨fun h => h.2, fun h => ⟨rfl, h⟩⟩
theorem ev_aug18 : Ev (sAug 18 g2 we ⟨nx, rt, bk, ct, xx⟩ (o0 :: o1 :: o2 :: o3 :: o4 :: o5 :: o6 :: o7 :: o8 :: o9 :: o10 :: o11 :: o12 :: o13 :: o14 :: o15 :: o16 :: o17 :: some (.int i) :: ρ)) = Ev (we (o0 :: o1 :: o2 :: o3 :: o4 :: o5 :: o6 :: o7 :: o8 :: o9 :: o10 :: o11 :: o12 :: o13 :: o14 :: o15 :: o16 :: o17 :: some (.int i) :: ρ) (AugQ i 18 g2 nx) xx) := rfl
theorem ev_augq18 : Ev (AugQ i 18 g2 nx (.int j) (o0 :: o1 :: o2 :: o3 :: o4 :: o5 :: o6 :: o7 :: o8 :: o9 :: o10 :: o11 :: o12 :: o13 :: o14 :: o15 :: o16 :: o17 :: o18 :: ρ)) = Ev (nx (o0 :: o1 :: o2 :: o3 :: o4 :: o5 :: o6 :: o7 :: o8 :: o9 :: o10 :: o11 :: o12 :: o13 :: o14 :: o15 :: o16 :: o17 :: some (.int (g2 i j)) :: ρ)) := rfl
theorem ev_setixn18 : Ev (SetIxN (some m) y a l (o0 :: o1 :: o2 :: o3 :: o4 :: o5 :: o6 :: o7 :: o8 :: o9 :: o10 :: o11 :: o12 :: o13 :: o14 :: o15 :: o16 :: o17 :: some d :: ρ) (18, []) nx) = Ev (nx (o0 :: o1 :: o2 :: o3 :: o4 :: o5 :: o6 :: o7 :: o8 :: o9 :: o10 :: o11 :: o12 :: o13 :: o14 :: o15 :: o16 :: o17 :: some (.lst (some a) (l.set m y)) :: ρ)) := rfl
theorem ev_popq18 : Ev (PopQ Q (o0 :: o1 :: o2 :: o3 :: o4 :: o5 :: o6 :: o7 :: o8 :: o9 :: o10 :: o11 :: o12 :: o13 :: o14 :: o15 :: o16 :: o17 :: some d :: ρ) (18, []) (.lst (some a) (l ++ [y]))) = Ev (OwsQ (l ++ [y]) (Q y (o0 :: o1 :: o2 :: o3 :: o4 :: o5 :: o6 :: o7 :: o8 :: o9 :: o10 :: o11 :: o12 :: o13 :: o14 :: o15 :: o16 :: o17 :: some (.lst (some a) l) :: ρ))) := propext ⟨fun h => ⟨h.1, by obtain ⟨_, y2, h2, h3⟩ := h; rw [List.getLast?_concat] at h2; cases h2; have h4 : Q y (setP _ _ (.lst (some a) (l ++ [y]).dropLast)) := h3; rw [List.dropLast_concat] at h4; exact h4⟩, fun h => ⟨h.1, y, List.getLast?_concat, by show Q y (setP _ _ (.lst (some a) (l ++ [y]).dropLast)); rw [List.dropLast_concat]; exact h.2⟩⟩
theorem ev_lend18 : Ev (resA (.lend (18, []) a :: as) (o0 :: o1 :: o2 :: o3 :: o4 :: o5 :: o6 :: o7 :: o8 :: o9 :: o10 :: o11 :: o12 :: o13 :: o14 :: o15 :: o16 :: o17 :: some d :: ρ) RE) = Ev (AdQ (addr d) a (resA as (o0 :: o1 :: o2 :: o3 :: o4 :: o5 :: o6 :: o7 :: o8 :: o9 :: o10 :: o11 :: o12 :: o13 :: o14 :: o15 :: o16 :: o17 :: some (lent a) :: ρ) fun ds ρ' => RE (d :: ds) ρ')) := rfl
theorem ev_giveL18 : Ev (giveA (.lend (18, []) a :: as) (d :: ds) (o0 :: o1 :: o2 :: o3 :: o4 :: o5 :: o6 :: o7 :: o8 :: o9 :: o10 :: o11 :: o12 :: o13 :: o14 :: o15 :: o16 :: o17 :: some (lent a) :: ρ) QE) = Ev (giveA as ds (o0 :: o1 :: o2 :: o3 :: o4 :: o5 :: o6 :: o7 :: o8 :: o9 :: o10 :: o11 :: o12 :: o13 :: o14 :: o15 :: o16 :: o17 :: some d :: ρ) QE) := propext ⟨fun h => h.2, fun h => ⟨rfl, h⟩⟩
theorem ev_var19 : Ev (pVar 19 (o0 :: o1 :: o2 :: o3 :: o4 :: o5 :: o6 :: o7 :: o8 :: o9 :: o10 :: o11 :: o12 :: o13 :: o14 :: o15 :: o16 :: o17 :: o18 :: some d :: ρ) R) = Ev (R d) := rfl
theorem ev_set19 : Ev (SetK 19 oo (o0 :: o1 :: o2 :: o3 :: o4 :: o5 :: o6 :: o7 :: o8 :: o9 :: o10 :: o11 :: o12 :: o13 :: o14 :: o15 :: o16 :: o17 :: o18 :: o19 :: ρ) QE) = Ev (QE (o0 :: o1 :: o2 :: o3 :: o4 :: o5 :: o6 :: o7 :: o8 :: o9 :: o10 :: o11 :: o12 :: o13 :: o14 :: o15 :: o16 :: o17 :: o18 :: oo :: ρ)) := rfl
theorem ev_mov19 : Ev (eMov 19 (o0 :: o1 :: o2 :: o3 :: o4 :: o5 :: o6 :: o7 :: o8 :: o9 :: o10 :: o11 :: o12 :: o13 :: o14 :: o15 :: o16 :: o17 :: o18 :: some d :: ρ) Q Qx) = Ev (Q d (o0 :: o1 :: o2 :: o3 :: o4 :: o5 :: o6 :: o7 :: o8 :: o9 :: o10 :: o11 :: o12 :: o13 :: o14 :: o15 :: o16 :: o17 :: o18 :: none :: ρ)) := rfl
theorem ev_frz19 : Ev (eFrz 19 (o0 :: o1 :: o2 :: o3 :: o4 :: o5 :: o6 :: o7 :: o8 :: o9 :: o10 :: o11 :: o12 :: o13 :: o14 :: o15 :: o16 :: o17 :: o18 :: some (.lst ma l) :: ρ) Q Qx) = Ev (OwsQ l (Q (.lst none l) (o0 :: o1 :: o2 :: o3 :: o4 :: o5 :: o6 :: o7 :: o8 :: o9 :: o10 :: o11 :: o12 :: o13 :: o14 :: o15 :: o16 :: o17 :: o18 :: some (.lst none l) :: ρ))) := rfl
theorem ev_frzT19 : Ev (eFrz 19 (o0 :: o1 :: o2 :: o3 :: o4 :: o5 :: o6 :: o7 :: o8 :: o9 :: o10 :: o11 :: o12 :: o13 :: o14 :: o15 :: o16 :: o17 :: o18 :: some (.tup l) :: ρ) Q Qx) = Ev (OwsQ l (Q (.tup l) (o0 :: o1 :: o2 :: o3 :: o4 :: o5 :: o6 :: o7 :: o8 :: o9 :: o10 :: o11 :: o12 :: o13 :: o14 :: o15 :: o16 :: o17 :: o18 :: some (.tup l) :: ρ))) := rfl
theorem ev_lv19 : ∀ {f : Path → D → Prop}, Ev (lVar 19 (o0 :: o1 :: o2 :: o3 :: o4 :: o5 :: o6 :: o7 :: o8 :: o9 :: o10 :: o11 :: o12 :: o13 :: o14 :: o15 :: o16 :: o17 :: o18 :: some d :: ρ) f) = Ev (f (19, []) d) := rfl
theorem ev_app2_19 : Ev (AppQ2 (19, []) a Q y (o0 :: o1 :: o2 :: o3 :: o4 :: o5 :: o6 :: o7 :: o8 :: o9 :: o10 :: o11 :: o12 :: o13 :: o14 :: o15 :: o16 :: o17 :: o18 :: some (.lst (some a) l) :: ρ)) = (l.length < sizeLine ∧ Ev (Q .non (o0 :: o1 :: o2 :: o3 :: o4 :: o5 :: o6 :: o7 :: o8 :: o9 :: o10 :: o11 :: o12 :: o13 :: o14 :: o15 :: o16 :: o17 :: o18 :: some (.lst (some a) (l ++ [y])) :: ρ))) := propext ⟨fun h => h.2, fun h => ⟨rfl, h⟩⟩
theorem ev_aug19 : Ev (sAug 19 g2 we ⟨nx, rt, bk, ct, xx⟩ (o0 :: o1 :: o2 :: o3 :: o4 :: o5 :: o6 :: o7 :: o8 :: o9 :: o10 :: o11 :: o12 :: o13 :: o14 :: o15 :: o16 :: o17 :: o18 :: some (.int i) :: ρ)) = Ev (we (o0 :: o1 :: o2 :: o3 :: o4 :: o5 :: o6 :: o7 :: o8 :: o9 :: o10 :: o11 :: o12 :: o13 :: o14 :: o15 :: o16 :: o17 :: o18 :: some (.int i) :: ρ) (AugQ i 19 g2 nx) xx) := rfl
theorem ev_augq19 : Ev (AugQ i 19 g2 nx (.int j) (o0 :: o1 :: o2 :: o3 :: o4 :: o5 :: o6 :: o7 :: o8 :: o9 :: o10 :: o11 :: o12 :: o13 :: o14 :: o15 :: o16 :: o17 :: o18 :: o19 :: ρ)) = Ev (nx (o0 :: o1 :: o2 :: o3 :: o4 :: o5 :: o6 :: o7 :: o8 :: o9 :: o10 :: o11 :: o12 :: o13 :: o14 :: o15 :: o16 :: o17 :: o18 :: some (.int (g2 i j)) :: ρ)) := rfl
theorem ev_setixn19 : Ev (SetIxN (some m) y a l (o0 :: o1 :: o2 :: o3 :: o4 :: o5 :: o6 :: o7 :: o8 :: o9 :: o10 :: o11 :: o12 :: o13 :: o14 :: o15 :: o16 :: o17 :: o18 :: some d :: ρ) (19, []) nx) = Ev (nx (o0 :: o1 :: o2 :: o3 :: o4 :: o5 :: o6 :: o7 :: o8 :: o9 :: o10 :: o11 :: o12 :: o13 :: o14 :: o15 :: o16 :: o17 :: o18 :: some (.lst (some a) (l.set m y)) :: ρ)) := rfl
theorem ev_popq19 : Ev (PopQ Q (o0 :: o1 :: o2 :: o3 :: o4 :: o5 :: o6 :: o7 :: o8 :: o9 :: o10 :: o11 :: o12 :: o13 :: o14 :: o15 :: o16 :: o17 :: o18 :: some d :: ρ) (19, []) (.lst (some a) (l ++ [y]))) = Ev (OwsQ (l ++ [y]) (Q y (o0 :: o1 :: o2 :: o3 :: o4 :: o5 :: o6 :: o7 :: o8 :: o9 :: o10 :: o11 :: o12 :: o13 :: o14 :: o15 :: o16 :: o17 :: o18 :: some (.lst (some a) l) :: ρ))) := propext ⟨fun h => ⟨h.1, by obtain ⟨_, y2, h2, h3⟩ := h; rw [List.getLast?_concat] at h2; cases h2; have h4 : Q y (setP _ _ (.lst (some a) (l ++ [y]).dropLast)) := h3; rw [List.dropLast_concat] at h4; exact h4⟩, fun h => ⟨h.1, y, List.getLast?_concat, by show Q y (setP _ _ (.lst (some a) (l ++ [y]).dropLast)); rw [List.dropLast_concat]; exact h.2⟩⟩
theorem ev_lend19 : Ev (resA (.lend (19, []) a :: as) (o0 :: o1 :: o2 :: o3 :: o4 :: o5 :: o6 :: o7 :: o8 :: o9 :: o10 :: o11 :: o12 :: o13 :: o14 :: o15 :: o16 :: o17 :: o18 :: some d :: ρ) RE) = Ev (AdQ (addr d) a (resA as (o0 :: o1 :: o2 :: o3 :: o4 :: o5 :: o6 :: o7 :: o8 :: o9 :: o10 :: o11 :: o12 :: o13 :: o14 :: o15 :: o16 :: o17 :: o18 :: some (lent a) :: ρ) fun ds ρ' => RE (d :: ds) ρ')) := rfl
theorem ev_giveL19 : Ev (giveA (.lend (19, []) a :: as) (d :: ds) (o0 :: o1 :: o2 :: o3 :: o4 :: o5 :: o6 :: o7 :: o8 :: o9 :: o10 :: o11 :: o12 :: o13 :: o14 :: o15 :: o16 :: o17 :: o18 :: some (lent a) :: ρ) QE) = Ev (giveA as ds (o0 :: o1 :: o2 :: o3 :: o4 :: o5 :: o6 :: o7 :: o8 :: o9 :: o10 :: o11 :: o12 :: o13 :: o14 :: o15 :: o16 :: o17 :: o18 :: some d :: ρ) QE) := propext ⟨fun h => h.2, fun h => ⟨rfl, h⟩⟩
theorem ev_var20 : Ev (pVar 20 (o0 :: o1 :: o2 :: o3 :: o4 :: o5 :: o6 :: o7 :: o8 :: o9 :: o10 :: o11 :: o12 :: o13 :: o14 :: o15 :: o16 :: o17 :: o18 :: o19 :: some d :: ρ) R) = Ev (R d) := rfl
theorem ev_set20 : Ev (SetK 20 oo (o0 :: o1 :: o2 :: o3 :: o4 :: o5 :: o6 :: o7 :: o8 :: o9 :: o10 :: o11 :: o12 :: o13 :: o14 :: o15 :: o16 :: o17 :: o18 :: o19 :: o20 :: ρ) QE) = Ev (QE (o0 :: o1 :: o2 :: o3 :: o4 :: o5 :: o6 :: o7 :: o8 :: o9 :: o10 :: o11 :: o12 :: o13 :: o14 :: o15 :: o16 :: o17 :: o18 :: o19 :: oo :: ρ)) := rfl
theorem ev_mov20 : Ev (eMov 20 (o0 :: o1 :: o2 :: o3 :: o4 :: o5 :: o6 :: o7 :: o8 :: o9 :: o10 :: o11 :: o12 :: o13 :: o14 :: o15 :: o16 :: o17 :: o18 :: o19 :: some d :: ρ) Q Qx) = Ev (Q d (o0 :: o1 :: o2 :: o3 :: o4 :: o5 :: o6 :: o7 :: o8 :: o9 :: o10 :: o11 :: o12 :: o13 :: o14 :: o15 :: o16 :: o17 :: o18 :: o19 :: none :: ρ)) := rfl
theorem ev_frz20 : Ev (eFrz 20 (o0 :: o1 :: o2 :: o3 :: o4 :: o5 :: o6 :: o7 :: o8 :: o9 :: o10 :: o11 :: o12 :: o13 :: o14 :: o15 :: o16 :: o17 :: o18 :: o19 :: some (.lst ma l) :: ρ) Q Qx) = Ev (OwsQ l (Q (.lst none l) (o0 :: o1 :: o2 :: o3 :: o4 :: o5 :: o6 :: o7 :: o8 :: o9 :: o10 :: o11 :: o12 :: o13 :: o14 :: o15 :: o16 :: o17 :: o18 :: o19 :: some (.lst none l) :: ρ))) := rfl
theorem ev_frzT20 : Ev (eFrz 20 (o0 :: o1 :: o2 :: o3 :: o4 :: o5 :: o6 :: o7 :: o8 :: o9 :: o10 :: o11 :: o12 :: o13 :: o14 :: o15 :: o16 :: o17 :: o18 :: o19 :: some (.tup l) :: ρ) Q Qx) = Ev (OwsQ l (Q (.tup l) (o0 :: o1 :: o2 :: o3 :: o4 :: o5 :: o6 :: o7 :: o8 :: o9 :: o10 :: o11 :: o12 :: o13 :: o14 :: o15 :: o16 :: o17 :: o18 :: o19 :: some (.tup l) :: ρ))) := rfl
theorem ev_lv20 : ∀ {f : Path → D → Prop}, Ev (lVar 20 (o0 :: o1 :: o2 :: o3 :: o4 :: o5 :: o6 :: o7 :: o8 :: o9 :: o10 :: o11 :: o12 :: o13 :: o14 :: o15 :: o16 :: o17 :: o18 :: o19 :: some d :: ρ) f) = Ev (f (20, []) d) := rfl
theorem ev_app2_20 : Ev (AppQ2 (20, []) a Q y (o0 :: o1 :: o2 :: o3 :: o4 :: o5 :: o6 :: o7 :: o8 :: o9 :: o10 :: o11 :: o12 :: o13 :: o14 :: o15 :: o16 :: o17 :: o18 :: o19 :: some (.lst (some a) l) :: ρ)) = (l.length < sizeLine ∧ Ev (Q .non (o0 :: o1 :: o2 :: o3 :: o4 :: o5 :: o6 :: o7 :: o8 :: o9 :: o10 :: o11 :: o12 :: o13 :: o14 :: o15 :: o16 :: o17 :: o18 :: o19 :: some (.lst (some a) (l ++ [y])) :: ρ))) := propext ⟨fun h => h.2, fun h => ⟨rfl, h⟩⟩
theorem ev_aug20 : Ev (sAug 20 g2 we ⟨nx, rt, bk, ct, xx⟩ (o0 :: o1 :: o2 :: o3 :: o4 :: o5 :: o6 :: o7 :: o8 :: o9 :: o10 :: o11 :: o12 :: o13 :: o14 :: o15 :: o16 :: o17 :: o18 :: o19 :: some (.int i) :: ρ)) = Ev (we (o0 :: o1 :: o2 :: o3 :: o4 :: o5 :: o6 :: o7 :: o8 :: o9 :: o10 :: o11 :: o12 :: o13 :: o14 :: o15 :: o16 :: o17 :: o18 :: o19 :: some (.int i) :: ρ) (AugQ i 20 g2 nx) xx) := rfl
theorem ev_augq20 : Ev (AugQ i 20 g2 nx (.int j) (o0 :: o1 :: o2 :: o3 :: o4 :: o5 :: o6 :: o7 :: o8 :: o9 :: o10 :: o11 :: o12 :: o13 :: o14 :: o15 :: o16 :: o17 :: o18 :: o19 :: o20 :: ρ)) = Ev (nx (o0 :: o1 :: o2 :: o3 :: o4 :: o5 :: o6 :: o7 :: o8 :: o9 :: o10 :: o11 :: o12 :: o13 :: o14 :: o15 :: o16 :: o17 :: o18 :: o19 :: some (.int (g2 i j)) :: ρ)) := rfl
theorem ev_setixn20 : Ev (SetIxN (some m) y a l (o0 :: o1 :: o2 :: o3 :: o4 :: o5 :: o6 :: o7 :: o8 :: o9 :: o10 :: o11 :: o12 :: o13 :: o14 :: o15 :: o16 :: o17 :: o18 :: o19 :: some d :: ρ) (20, []) nx) = Ev (nx (o0 :: o1 :: o2 :: o3 :: o4 :: o5 :: o6 :: o7 :: o8 :: o9 :: o10 :: o11 :: o12 :: o13 :: o14 :: o15 :: o16 :: o17 :: o18 :: o19 :: some (.lst (some a) (l.set m y)) :: ρ)) := rfl
theorem ev_popq20 : Ev (PopQ Q (o0 :: o1 :: o2 :: o3 :: o4 :: o5 :: o6 :: o7 :: o8 :: o9 :: o10 :: o11 :: o12 :: o13 :: o14 :: o15 :: o16 :: o17 :: o18 :: o19 :: some d :: ρ) (20, []) (.lst (some a) (l ++ [y]))) = Ev (OwsQ (l ++ [y]) (Q y (o0 :: o1 :: o2 :: o3 :: o4 :: o5 :: o6 :: o7 :: o8 :: o9 :: o10 :: o11 :: o12 :: o13 :: o14 :: o15 :: o16 :: o17 :: o18 :: o19 :: some (.lst (some a) l) :: ρ))) := propext ⟨fun h => ⟨h.1, by obtain ⟨_, y2, h2, h3⟩ := h; rw [List.getLast?_concat] at h2; cases h2; have h4 : Q y (setP _ _ (.lst (some a) (l ++ [y]).dropLast)) := h3; rw [List.dropLast_concat] at h4; exact h4⟩, fun h => ⟨h.1, y, List.getLast?_concat, by show Q y (setP _ _ (.lst (some a) (l ++ [y]).dropLast)); rw [List.dropLast_concat]; exact h.2⟩⟩
theorem ev_lend20 : Ev (resA (.lend (20, []) a :: as) (o0 :: o1 :: o2 :: o3 :: o4 :: o5 :: o6 :: o7 :: o8 :: o9 :: o10 :: o11 :: o12 :: o13 :: o14 :: o15 :: o16 :: o17 :: o18 :: o19 :: some d :: ρ) RE) = Ev (AdQ (addr d) a (resA as (o0 :: o1 :: o2 :: o3 :: o4 :: o5 :: o6 :: o7 :: o8 :: o9 :: o10 :: o11 :: o12 :: o13 :: o14 :: o15 :: o16 :: o17 :: o18 :: o19 :: some (lent a) :: ρ) fun ds ρ' => RE (d :: ds) ρ')) := rfl
theorem ev_giveL20 : Ev (giveA (.lend (20, []) a :: as) (d :: ds) (o0 :: o1 :: o2 :: o3 :: o4 :: o5 :: o6 :: o7 :: o8 :: o9 :: o10 :: o11 :: o12 :: o13 :: o14 :: o15 :: o16 :: o17 :: o18 :: o19 :: some (lent a) :: ρ) QE) = Ev (giveA as ds (o0 :: o1 :: o2 :: o3 :: o4 :: o5 :: o6 :: o7 :: o8 :: o9 :: o10 :: o11 :: o12 :: o13 :: o14 :: o15 :: o16 :: o17 :: o18 :: o19 :: some d :: ρ) QE) := propext ⟨fun h => h.2, fun h => ⟨rfl, h⟩⟩
theorem ev_var21 : Ev (pVar 21 (o0 :: o1 :: o2 :: o3 :: o4 :: o5 :: o6 :: o7 :: o8 :: o9 :: o10 :: o11 :: o12 :: o13 :: o14 :: o15 :: o16 :: o17 :: o18 :: o19 :: o20 :: some d :: ρ) R) = Ev (R d) := rfl
theorem ev_set21 : Ev (SetK 21 oo (o0 :: o1 :: o2 :: o3 :: o4 :: o5 :: o6 :: o7 :: o8 :: o9 :: o10 :: o11 :: o12 :: o13 :: o14 :: o15 :: o16 :: o17 :: o18 :: o19 :: o20 :: o21 :: ρ) QE) = Ev (QE (o0 :: o1 :: o2 :: o3 :: o4 :: o5 :: o6 :: o7 :: o8 :: o9 :: o10 :: o11 :: o12 :: o13 :: o14 :: o15 :: o16 :: o17 :: o18 :: o19 :: o20 :: oo :: ρ)) := rfl
theorem ev_mov21 : Ev (eMov 21 (o0 :: o1 :: o2 :: o3 :: o4 :: o5 :: o6 :: o7 :: o8 :: o9 :: o10 :: o11 :: o12 :: o13 :: o14 :: o15 :: o16 :: o17 :: o18 :: o19 :: o20 :: some d :: ρ) Q Qx) = Ev (Q d (o0 :: o1 :: o2 :: o3 :: o4 :: o5 :: o6 :: o7 :: o8 :: o9 :: o10 :: o11 :: o12 :: o13 :: o14 :: o15 :: o16 :: o17 :: o18 :: o19 :: o20 :: none :: ρ)) := rfl
theorem ev_frz21 : Ev (eFrz 21 (o0 :: o1 :: o2 :: o3 :: o4 :: o5 :: o6 :: o7 :: o8 :: o9 :: o10 :: o11 :: o12 :: o13 :: o14 :: o15 :: o16 :: o17 :: o18 :: o19 :: o20 :: some (.lst ma l) :: ρ) Q Qx) = Ev (OwsQ l (Q (.lst none l) (o0 :: o1 :: o2 :: o3 :: o4 :: o5 :: o6 :: o7 :: o8 :: o9 :: o10 :: o11 :: o12 :: o13 :: o14 :: o15 :: o16 :: o17 :: o18 :: o19 :: o20 :: some (.lst none l) :: ρ))) := rfl
theorem ev_frzT21 : Ev (eFrz 21 (o0 :: o1 :: o2 :: o3 :: o4 :: o5 :: o6 :: o7 :: o8 :: o9 :: o10 :: o11 :: o12 :: o13 :: o14 :: o15 :: o16 :: o17 :: o18 :: o19 :: o20 :: some (.tup l) :: ρ) Q Qx) = Ev (OwsQ l (Q (.tup l) (o0 :: o1 :: o2 :: o3 :: o4 :: o5 :: o6 :: o7 :: o8 :: o9 :: o10 :: o11 :: o12 :: o13 :: o14 :: o15 :: o16 :: o17 :: o18 :: o19 :: o20 :: some (.tup l) :: ρ))) := rfl
theorem ev_lv21 : ∀ {f : Path → D → Prop}, Ev (lVar 21 (o0 :: o1 :: o2 :: o3 :: o4 :: o5 :: o6 :: o7 :: o8 :: o9 :: o10 :: o11 :: o12 :: o13 :: o14 :: o15 :: o16 :: o17 :: o18 :: o19 :: o20 :: some d :: ρ) f) = Ev (f (21, []) d) := rfl
theorem ev_app2_21 : Ev (AppQ2 (21, []) a Q y (o0 :: o1 :: o2 :: o3 :: o4 :: o5 :: o6 :: o7 :: o8 :: o9 :: o10 :: o11 :: o12 :: o13 :: o14 :: o15 :: o16 :: o17 :: o18 :: o19 :: o20 :: some (.lst (some a) l) :: ρ)) = (l.length < sizeLine ∧ Ev (Q .non (o0 :: o1 :: o2 :: o3 :: o4 :: o5 :: o6 :: o7 :: o8 :: o9 :: o10 :: o11 :: o12 :: o13 :: o14 :: o15 :: o16 :: o17 :: o18 :: o19 :: o20 :: some (.lst (some a) (l ++ [y])) :: ρ))) := propext ⟨fun h => h.2, fun h => ⟨rfl, h⟩⟩
theorem ev_aug21 : Ev (sAug 21 g2 we ⟨nx, rt, bk, ct, xx⟩ (o0 :: o1 :: o2 :: o3 :: o4 :: o5 :: o6 :: o7 :: o8 :: o9 :: o10 :: o11 :: o12 :: o13 :: o14 :: o15 :: o16 :: o17 :: o18 :: o19 :: o20 :: some (.int i) :: ρ)) = Ev (we (o0 :: o1 :: o2 :: o3 :: o4 :: o5 :: o6 :: o7 :: o8 :: o9 :: o10 :: o11 :: o12 :: o13 :: o14 :: o15 :: o16 :: o17 :: o18 :: o19 :: o20 :: some (.int i) :: ρ) (AugQ i 21 g2 nx) xx) := rfl
theorem ev_augq21 : Ev (AugQ i 21 g2 nx (.int j) (o0 :: o1 :: o2 :: o3 :: o4 :: o5 :: o6 :: o7 :: o8 :: o9 :: o10 :: o11 :: o12 :: o13 :: o14 :: o15 :: o16 :: o17 :: o18 :: o19 :: o20 :: o21 :: ρ)) = Ev (nx (o0 :: o1 :: o2 :: o3 :: o4 :: o5 :: o6 :: o7 :: o8 :: o9 :: o10 :: o11 :: o12 :: o13 :: o14 :: o15 :: o16 :: o17 :: o18 :: o19 :: o20 :: some (.int (g2 i j)) :: ρ)) := rfl
theorem ev_setixn21 : Ev (SetIxN (some m) y a l (o0 :: o1 :: o2 :: o3 :: o4 :: o5 :: o6 :: o7 :: o8 :: o9 :: o10 :: o11 :: o12 :: o13 :: o14 :: o15 :: o16 :: o17 :: o18 :: o19 :: o20 :: some d :: ρ) (21, []) nx) = Ev (nx (o0 :: o1 :: o2 :: o3 :: o4 :: o5 :: o6 :: o7 :: o8 :: o9 :: o10 :: o11 :: o12 :: o13 :: o14 :: o15 :: o16 :: o17 :: o18 :: o19 :: o20 :: some (.lst (some a) (l.set m y)) :: ρ)) := rfl
theorem ev_popq21 : Ev (PopQ Q (o0 :: o1 :: o2 :: o3 :: o4 :: o5 :: o6 :: o7 :: o8 :: o9 :: o10 :: o11 :: o12 :: o13 :: o14 :: o15 :: o16 :: o17 :: o18 :: o19 :: o20 :: some d :: ρ) (21, []) (.lst (some a) (l ++ [y]))) = Ev (OwsQ (l ++ [y]) (Q y (o0 :: o1 :: o2 :: o3 :: o4 :: o5 :: o6 :: o7 :: o8 :: o9 :: o10 :: o11 :: o12 :: o13 :: o14 :: o15 :: o16 :: o17 :: o18 :: o19 :: o20 :: some (.lst (some a) l) :: ρ))) := propext ⟨fun h => ⟨h.1, by obtain ⟨_, y2, h2, h3⟩ := h; rw [List.getLast?_concat] at h2; cases h2; have h4 : Q y (setP _ _ (.lst (some a) (l ++ [y]).dropLast)) := h3; rw [List.dropLast_concat] at h4; exact h4⟩, fun h => ⟨h.1, y, List.getLast?_concat, by show Q y (setP _ _ (.lst (some a) (l ++ [y]).dropLast)); rw [List.dropLast_concat]; exact h.2⟩⟩
theorem ev_lend21 : Ev (resA (.lend (21, []) a :: as) (o0 :: o1 :: o2 :: o3 :: o4 :: o5 :: o6 :: o7 :: o8 :: o9 :: o10 :: o11 :: o12 :: o13 :: o14 :: o15 :: o16 :: o17 :: o18 :: o19 :: o20 :: some d :: ρ) RE) = Ev (AdQ (addr d) a (resA as (o0 :: o1 :: o2 :: o3 :: o4 :: o5 :: o6 :: o7 :: o8 :: o9 :: o10 :: o11 :: o12 :: o13 :: o14 :: o15 :: o16 :: o17 :: o18 :: o19 :: o20 :: some (lent a) :: ρ) fun ds ρ' => RE (d :: ds) ρ')) := rfl
theorem ev_giveL21 : Ev (giveA (.lend (21, []) a :: as) (d :: ds) (o0 :: o1 :: o2 :: o3 :: o4 :: o5 :: o6 :: o7 :: o8 :: o9 :: o10 :: o11 :: o12 :: o13 :: o14 :: o15 :: o16 :: o17 :: o18 :: o19 :: o20 :: some (lent a) :: ρ) QE) = Ev (giveA as ds (o0 :: o1 :: o2 :: o3 :: o4 :: o5 :: o6 :: o7 :: o8 :: o9 :: o10 :: o11 :: o12 :: o13 :: o14 :: o15 :: o16 :: o17 :: o18 :: o19 :: o20 :: some d :: ρ) QE) := propext ⟨fun h => h.2, fun h => ⟨rfl, h⟩⟩
theorem ev_var22 : Ev (pVar 22 (o0 :: o1 :: o2 :: o3 :: o4 :: o5 :: o6 :: o7 :: o8 :: o9 :: o10 :: o11 :: o12 :: o13 :: o14 :: o15 :: o16 :: o17 :: o18 :: o19 :: o20 :: o21 :: some d :: ρ) R) = Ev (R d) := rfl
theorem ev_set22 : Ev (SetK 22 oo (o0 :: o1 :: o2 :: o3 :: o4 :: o5 :: o6 :: o7 :: o8 :: o9 :: o10 :: o11 :: o12 :: o13 :: o14 :: o15 :: o16 :: o17 :: o18 :: o19 :: o20 :: o21 :: o22 :: ρ) QE) = Ev (QE (o0 :: o1 :: o2 :: o3 :: o4 :: o5 :: o6 :: o7 :: o8 :: o9 :: o10 :: o11 :: o12 :: o13 :: o14 :: o15 :: o16 :: o17 :: o18 :: o19 :: o20 :: o21 :: oo :: ρ)) := rfl
theorem ev_mov22 : Ev (eMov 22 (o0 :: o1 :: o2 :: o3 :: o4 :: o5 :: o6 :: o7 :: o8 :: o9 :: o10 :: o11 :: o12 :: o13 :: o14 :: o15 :: o16 :: o17 :: o18 :: o19 :: o20 :: o21 :: some d :: ρ) Q Qx) = Ev (Q d (o0 :: o1 :: o2 :: o3 :: o4 :: o5 :: o6 :: o7 :: o8 :: o9 :: o10 :: o11 :: o12 :: o13 :: o14 :: o15 :: o16 :: o17 :: o18 :: o19 :: o20 :: o21 :: none :: ρ)) := rfl
theorem ev_frz22 : Ev (eFrz 22 (o0 :: o1 :: o2 :: o3 :: o4 :: o5 :: o6 :: o7 :: o8 :: o9 :: o10 :: o11 :: o12 :: o13 :: o14 :: o15 :: o16 :: o17 :: o18 :: o19 :: o20 :: o21 :: some (.lst ma l) :: ρ) Q Qx) = Ev (OwsQ l (Q (.lst none l) (o0 :: o1 :: o2 :: o3 :: o4 :: o5 :: o6 :: o7 :: o8 :: o9 :: o10 :: o11 :: o12 :: o13 :: o14 :: o15 :: o16 :: o17 :: o18 :: o19 :: o20 :: o21 :: some (.lst none l) :: ρ))) := rfl
theorem ev_frzT22 : Ev (eFrz 22 (o0 :: o1 :: o2 :: o3 :: o4 :: o5 :: o6 :: o7 :: o8 :: o9 :: o10 :: o11 :: o12 :: o13 :: o14 :: o15 :: o16 :: o17 :: o18 :: o19 :: o20 :: o21 :: some (.tup l) :: ρ) Q Qx) = Ev (OwsQ l (Q (.tup l) (o0 :: o1 :: o2 :: o3 :: o4 :: o5 :: o6 :: o7 :: o8 :: o9 :: o10 :: o11 :: o12 :: o13 :: o14 :: o15 :: o16 :: o17 :: o18 :: o19 :: o20 :: o21 :: some (.tup l) :: ρ))) := rfl
theorem ev_lv22 : ∀ {f : Path → D → Prop}, Ev (lVar 22 (o0 :: o1 :: o2 :: o3 :: o4 :: o5 :: o6 :: o7 :: o8 :: o9 :: o10 :: o11 :: o12 :: o13 :: o14 :: o15 :: o16 :: o17 :: o18 :: o19 :: o20 :: o21 :: some d :: ρ) f) = Ev (f (22, []) d) := rfl
theorem ev_app2_22 : Ev (AppQ2 (22, []) a Q y (o0 :: o1 :: o2 :: o3 :: o4 :: o5 :: o6 :: o7 :: o8 :: o9 :: o10 :: o11 :: o12 :: o13 :: o14 :: o15 :: o16 :: o17 :: o18 :: o19 :: o20 :: o21 :: some (.lst (some a) l) :: ρ)) = (l.length < sizeLine ∧ Ev (Q .non (o0 :: o1 :: o2 :: o3 :: o4 :: o5 :: o6 :: o7 :: o8 :: o9 :: o10 :: o11 :: o12 :: o13 :: o14 :: o15 :: o16 :: o17 :: o18 :: o19 :: o20 :: o21 :: some (.lst (some a) (l ++ [y])) :: ρ))) := propext ⟨fun h => h.2, fun h => ⟨rfl, h⟩⟩
theorem ev_aug22 : Ev (sAug 22 g2 we ⟨nx, rt, bk, ct, xx⟩ (o0 :: o1 :: o2 :: o3 :: o4 :: o5 :: o6 :: o7 :: o8 :: o9 :: o10 :: o11 :: o12 :: o13 :: o14 :: o15 :: o16 :: o17 :: o18 :: o19 :: o20 :: o21 :: some (.int i) :: ρ)) = Ev (we (o0 :: o1 :: o2 :: o3 :: o4 :: o5 :: o6 :: o7 :: o8 :: o9 :: o10 :: o11 :: o12 :: o13 :: o14 :: o15 :: o16 :: o17 :: o18 :: o19 :: o20 :: o21 :: some (.int i) :: ρ) (AugQ i 22 g2 nx) xx) := rfl
theorem ev_augq22 : Ev (AugQ i 22 g2 nx (.int j) (o0 :: o1 :: o2 :: o3 :: o4 :: o5 :: o6 :: o7 :: o8 :: o9 :: o10 :: o11 :: o12 :: o13 :: o14 :: o15 :: o16 :: o17 :: o18 :: o19 :: o20 :: o21 :: o22 :: ρ)) = Ev (nx (o0 :: o1 :: o2 :: o3 :: o4 :: o5 :: o6 :: o7 :: o8 :: o9 :: o10 :: o11 :: o12 :: o13 :: o14 :: o15 :: o16 :: o17 :: o18 :: o19 :: o20 :: o21 :: some (.int (g2 i j)) :: ρ)) := rfl
theorem ev_setixn22 : Ev (SetIxN (some m) y a l (o0 :: o1 :: o2 :: o3 :: o4 :: o5 :: o6 :: o7 :: o8 :: o9 :: o10 :: o11 :: o12 :: o13 :: o14 :: o15 :: o16 :: o17 :: o18 :: o19 :: o20 :: o21 :: some d :: ρ) (22, []) nx) = Ev (nx (o0 :: o1 :: o2 :: o3 :: o4 :: o5 :: o6 :: o7 :: o8 :: o9 :: o10 :: o11 :: o12 :: o13 :: o14 :: o15 :: o16 :: o17 :: o18 :: o19 :: o20 :: o21 :: some (.lst (some a) (l.set m y)) :: ρ)) := rfl
theorem ev_popq22 : Ev (PopQ Q (o0 :: o1 :: o2 :: o3 :: o4 :: o5 :: o6 :: o7 :: o8 :: o9 :: o10 :: o11 :: o12 :: o13 :: o14 :: o15 :: o16 :: o17 :: o18 :: o19 :: o20 :: o21 :: some d :: ρ) (22, []) (.lst (some a) (l ++ [y]))) = Ev (OwsQ (l ++ [y]) (Q y (o0 :: o1 :: o2 :: o3 :: o4 :: o5 :: o6 :: o7 :: o8 :: o9 :: o10 :: o11 :: o12 :: o13 :: o14 :: o15 :: o16 :: o17 :: o18 :: o19 :: o20 :: o21 :: some (.lst (some a) l) :: ρ))) := propext ⟨fun h => ⟨h.1, by obtain ⟨_, y2, h2, h3⟩ := h; rw [List.getLast?_concat] at h2; cases h2; have h4 : Q y (setP _ _ (.lst (some a) (l ++ [y]).dropLast)) := h3; rw [List.dropLast_concat] at h4; exact h4⟩, fun h => ⟨h.1, y, List.getLast?_concat, by show Q y (setP _ _ (.lst (some a) (l ++ [y]).dropLast)); rw [List.dropLast_concat]; exact h.2⟩⟩
theorem ev_lend22 : Ev (resA (.lend (22, []) a :: as) (o0 :: o1 :: o2 :: o3 :: o4 :: o5 :: o6 :: o7 :: o8 :: o9 :: o10 :: o11 :: o12 :: o13 :: o14 :: o15 :: o16 :: o17 :: o18 :: o19 :: o20 :: o21 :: some d :: ρ) RE) = Ev (AdQ (addr d) a (resA as (o0 :: o1 :: o2 :: o3 :: o4 :: o5 :: o6 :: o7 :: o8 :: o9 :: o10 :: o11 :: o12 :: o13 :: o14 :: o15 :: o16 :: o17 :: o18 :: o19 :: o20 :: o21 :: some (lent a) :: ρ) fun ds ρ' => RE (d :: ds) ρ')) := rfl
theorem ev_giveL22 : Ev (giveA (.lend (22, []) a :: as) (d :: ds) (o0 :: o1 :: o2 :: o3 :: o4 :: o5 :: o6 :: o7 :: o8 :: o9 :: o10 :: o11 :: o12 :: o13 :: o14 :: o15 :: o16 :: o17 :: o18 :: o19 :: o20 :: o21 :: some (lent a) :: ρ) QE) = Ev (giveA as ds (o0 :: o1 :: o2 :: o3 :: o4 :: o5 :: o6 :: o7 :: o8 :: o9 :: o10 :: o11 :: o12 :: o13 :: o14 :: o15 :: o16 :: o17 :: o18 :: o19 :: o20 :: o21 :: some d :: ρ) QE) := propext ⟨fun h => h.2, fun h => ⟨rfl, h⟩⟩
theorem ev_var23 : Ev (pVar 23 (o0 :: o1 :: o2 :: o3 :: o4 :: o5 :: o6 :: o7 :: o8 :: o9 :: o10 :: o11 :: o12 :: o13 :: o14 :: o15 :: o16 :: o17 :: o18 :: o19 :: o20 :: o21 :: o22 :: some d :: ρ) R) = Ev (R d) := rfl
theorem ev_set23 : Ev (SetK 23 oo (o0 :: o1 :: o2 :: o3 :: o4 :: o5 :: o6 :: o7 :: o8 :: o9 :: o10 :: o11 :: o12 :: o13 :: o14 :: o15 :: o16 :: o17 :: o18 :: o19 :: o20 :: o21 :: o22 :: o23 :: ρ) QE) = Ev (QE (o0 :: o1 :: o2 :: o3 :: o4 :: o5 :: o6 :: o7 :: o8 :: o9 :: o10 :: o11 :: o12 :: o13 :: o14 :: o15 :: o16 :: o17 :: o18 :: o19 :: o20 :: o21 :: o22 :: oo :: ρ)) := rfl
theorem ev_mov23 : Ev (eMov 23 (o0 :: o1 :: o2 :: o3 :: o4 :: o5 :: o6 :: o7 :: o8 :: o9 :: o10 :: o11 :: o12 :: o13 :: o14 :: o15 :: o16 :: o17 :: o18 :: o19 :: o20 :: o21 :: o22 :: some d :: ρ) Q Qx) = Ev (Q d (o0 :: o1 :: o2 :: o3 :: o4 :: o5 :: o6 :: o7 :: o8 :: o9 :: o10 :: o11 :: o12 :: o13 :: o14 :: o15 :: o16 :: o17 :: o18 :: o19 :: o20 :: o21 :: o22 :: none :: ρ)) := rfl
theorem ev_frz23 : Ev (eFrz 23 (o0 :: o1 :: o2 :: o3 :: o4 :: o5 :: o6 :: o7 :: o8 :: o9 :: o10 :: o11 :: o12 :: o13 :: o14 :: o15 :: o16 :: o17 :: o18 :: o19 :: o20 :: o21 :: o22 :: some (.lst ma l) :: ρ) Q Qx) = Ev (OwsQ l (Q (.lst none l) (o0 :: o1 :: o2 :: o3 :: o4 :: o5 :: o6 :: o7 :: o8 :: o9 :: o10 :: o11 :: o12 :: o13 :: o14 :: o15 :: o16 :: o17 :: o18 :: o19 :: o20 :: o21 :: o22 :: some (.lst none l) :: ρ))) := rfl
theorem ev_frzT23 : Ev (eFrz 23 (o0 :: o1 :: o2 :: o3 :: o4 :: o5 :: o6 :: o7 :: o8 :: o9 :: o10 :: o11 :: o12 :: o13 :: o14 :: o15 :: o16 :: o17 :: o18 :: o19 :: o20 :: o21 :: o22 :: some (.tup l) :: ρ) Q Qx) = Ev (OwsQ l (Q (.tup l) (o0 :: o1 :: o2 :: o3 :: o4 :: o5 :: o6 :: o7 :: o8 :: o9 :: o10 :: o11 :: o12 :: o13 :: o14 :: o15 :: o16 :: o17 :: o18 :: o19 :: o20 :: o21 :: o22 :: some (.tup l) :: ρ))) := rfl
theorem ev_lv23 : ∀ {f : Path → D → Prop}, Ev (lVar 23 (o0 :: o1 :: o2 :: o3 :: o4 :: o5 :: o6 :: o7 :: o8 :: o9 :: o10 :: o11 :: o12 :: o13 :: o14 :: o15 :: o16 :: o17 :: o18 :: o19 :: o20 :: o21 :: o22 :: some d :: ρ) f) = Ev (f (23, []) d) := rfl
theorem ev_app2_23 : Ev (AppQ2 (23, []) a Q y (o0 :: o1 :: o2 :: o3 :: o4 :: o5 :: o6 :: o7 :: o8 :: o9 :: o10 :: o11 :: o12 :: o13 :: o14 :: o15 :: o16 :: o17 :: o18 :: o19 :: o20 :: o21 :: o22 :: some (.lst (some a) l) :: ρ)) = (l.length < sizeLine ∧ Ev (Q .non (o0 :: o1 :: o2 :: o3 :: o4 :: o5 :: o6 :: o7 :: o8 :: o9 :: o10 :: o11 :: o12 :: o13 :: o14 :: o15 :: o16 :: o17 :: o18 :: o19 :: o20 :: o21 :: o22 :: some (.lst (some a) (l ++ [y])) :: ρ))) := propext ⟨fun h => h.2, fun h => ⟨rfl, h⟩⟩
theorem ev_aug23 : Ev (sAug 23 g2 we ⟨nx, rt, bk, ct, xx⟩ (o0 :: o1 :: o2 :: o3 :: o4 :: o5 :: o6 :: o7 :: o8 :: o9 :: o10 :: o11 :: o12 :: o13 :: o14 :: o15 :: o16 :: o17 :: o18 :: o19 :: o20 :: o21 :: o22 :: some (.int i) :: ρ)) = Ev (we (o0 :: o1 :: o2 :: o3 :: o4 :: o5 :: o6 :: o7 :: o8 :: o9 :: o10 :: o11 :: o12 :: o13 :: o14 :: o15 :: o16 :: o17 :: o18 :: o19 :: o20 :: o21 :: o22 :: some (.int i) :: ρ) (AugQ i 23 g2 nx) xx) := rfl
theorem ev_augq23 : Ev (AugQ i 23 g2 nx (.int j) (o0 :: o1 :: o2 :: o3 :: o4 :: o5 :: o6 :: o7 :: o8 :: o9 :: o10 :: o11 :: o12 :: o13 :: o14 :: o15 :: o16 :: o17 :: o18 :: o19 :: o20 :: o21 :: o22 :: o23 :: ρ)) = Ev (nx (o0 :: o1 :: o2 :: o3 :: o4 :: o5 :: o6 :: o7 :: o8 :: o9 :: o10 :: o11 :: o12 :: o13 :: o14 :: o15 :: o16 :: o17 :: o18 :: o19 :: o20 :: o21 :: o22 :: some (.int (g2 i j)) :: ρ)) := rfl
theorem ev_setixn23 : Ev (SetIxN (some m) y a l (o0 :: o1 :: o2 :: o3 :: o4 :: o5 :: o6 :: o7 :: o8 :: o9 :: o10 :: o11 :: o12 :: o13 :: o14 :: o15 :: o16 :: o17 :: o18 :: o19 :: o20 :: o21 :: o22 :: some d :: ρ) (23, []) nx) = Ev (nx (o0 :: o1 :: o2 :: o3 :: o4 :: o5 :: o6 :: o7 :: o8 :: o9 :: o10 :: o11 :: o12 :: o13 :: o14 :: o15 :: o16 :: o17 :: o18 :: o19 :: o20 :: o21 :: o22 :: some (.lst (some a) (l.set m y)) :: ρ)) := rfl
theorem ev_popq23 : Ev (PopQ Q (o0 :: o1 :: o2 :: o3 :: o4 :: o5 :: o6 :: o7 :: o8 :: o9 :: o10 :: o11 :: o12 :: o13 :: o14 :: o15 :: o16 :: o17 :: o18 :: o19 :: o20 :: o21 :: o22 :: some d :: ρ) (23, []) (.lst (some a) (l ++ [y]))) = Ev (OwsQ (l ++ [y]) (Q y (o0 :: o1 :: o2 :: o3 :: o4 :: o5 :: o6 :: o7 :: o8 :: o9 :: o10 :: o11 :: o12 :: o13 :: o14 :: o15 :: o16 :: o17 :: o18 :: o19 :: o20 :: o21 :: o22 :: some (.lst (some a) l) :: ρ))) := propext ⟨fun h => ⟨h.1, by obtain ⟨_, y2, h2, h3⟩ := h; rw [List.getLast?_concat] at h2; cases h2; have h4 : Q y (setP _ _ (.lst (some a) (l ++ [y]).dropLast)) := h3; rw [List.dropLast_concat] at h4; exact h4⟩, fun h => ⟨h.1, y, List.getLast?_concat, by show Q y (setP _ _ (.lst (some a) (l ++ [y]).dropLast)); rw [List.dropLast_concat]; exact h.2⟩⟩
theorem ev_lend23 : Ev (resA (.lend (23, []) a :: as) (o0 :: o1 :: o2 :: o3 :: o4 :: o5 :: o6 :: o7 :: o8 :: o9 :: o10 :: o11 :: o12 :: o13 :: o14 :: o15 :: o16 :: o17 :: o18 :: o19 :: o20 :: o21 :: o22 :: some d :: ρ) RE) = Ev (AdQ (addr d) a (resA as (o0 :: o1 :: o2 :: o3 :: o4 :: o5 :: o6 :: o7 :: o8 :: o9 :: o10 :: o11 :: o12 :: o13 :: o14 :: o15 :: o16 :: o17 :: o18 :: o19 :: o20 :: o21 :: o22 :: some (lent a) :: ρ) fun ds ρ' => RE (d :: ds) ρ')) := rfl
theorem ev_giveL23 : Ev (giveA (.lend (23, []) a :: as) (d :: ds) (o0 :: o1 :: o2 :: o3 :: o4 :: o5 :: o6 :: o7 :: o8 :: o9 :: o10 :: o11 :: o12 :: o13 :: o14 :: o15 :: o16 :: o17 :: o18 :: o19 :: o20 :: o21 :: o22 :: some (lent a) :: ρ) QE) = Ev (giveA as ds (o0 :: o1 :: o2 :: o3 :: o4 :: o5 :: o6 :: o7 :: o8 :: o9 :: o10 :: o11 :: o12 :: o13 :: o14 :: o15 :: o16 :: o17 :: o18 :: o19 :: o20 :: o21 :: o22 :: some d :: ρ) QE) := propext ⟨fun h => h.2, fun h => ⟨rfl, h⟩⟩
theorem ev_var24 : Ev (pVar 24 (o0 :: o1 :: o2 :: o3 :: o4 :: o5 :: o6 :: o7 :: o8 :: o9 :: o10 :: o11 :: o12 :: o13 :: o14 :: o15 :: o16 :: o17 :: o18 :: o19 :: o20 :: o21 :: o22 :: o23 :: some d :: ρ) R) = Ev (R d) := rfl
theorem ev_set24 : Ev (SetK 24 oo (o0 :: o1 :: o2 :: o3 :: o4 :: o5 :: o6 :: o7 :: o8 :: o9 :: o10 :: o11 :: o12 :: o13 :: o14 :: o15 :: o16 :: o17 :: o18 :: o19 :: o20 :: o21 :: o22 :: o23 :: o24 :: ρ) QE) = Ev (QE (o0 :: o1 :: o2 :: o3 :: o4 :: o5 :: o6 :: o7 :: o8 :: o9 :: o10 :: o11 :: o12 :: o13 :: o14 :: o15 :: o16 :: o17 :: o18 :: o19 :: o20 :: o21 :: o22 :: o23 :: oo :: ρ)) := rfl
theorem ev_mov24 : Ev (eMov 24 (o0 :: o1 :: o2 :: o3 :: o4 :: o5 :: o6 :: o7 :: o8 :: o9 :: o10 :: o11 :: o12 :: o13 :: o14 :: o15 :: o16 :: o17 :: o18 :: o19 :: o20 :: o21 :: o22 :: o23 :: some d :: ρ) Q Qx) = Ev (Q d (o0 :: o1 :: o2 :: o3 :: o4 :: o5 :: o6 :: o7 :: o8 :: o9 :: o10 :: o11 :: o12 :: o13 :: o14 :: o15 :: o16 :: o17 :: o18 :: o19 :: o20 :: o21 :: o22 :: o23 :: none :: ρ)) := rfl
theorem ev_frz24 : Ev (eFrz 24 (o0 :: o1 :: o2 :: o3 :: o4 :: o5 :: o6 :: o7 :: o8 :: o9 :: o10 :: o11 :: o12 :: o13 :: o14 :: o15 :: o16 :: o17 :: o18 :: o19 :: o20 :: o21 :: o22 :: o23 :: some (.lst ma l) :: ρ) Q Qx) = Ev (OwsQ l (Q (.lst none l) (o0 :: o1 :: o2 :: o3 :: o4 :: o5 :: o6 :: o7 :: o8 :: o9 :: o10 :: o11 :: o12 :: o13 :: o14 :: o15 :: o16 :: o17 :: o18 :: o19 :: o20 :: o21 :: o22 :: o23 :: some (.lst none l) :: ρ))) := rfl
theorem ev_frzT24 : Ev (eFrz 24 (o0 :: o1 :: o2 :: o3 :: o4 :: o5 :: o6 :: o7 :: o8 :: o9 :: o10 :: o11 :: o12 :: o13 :: o14 :: o15 :: o16 :: o17 :: o18 :: o19 :: o20 :: o21 :: o22 :: o23 :: some (.tup l) :: ρ) Q Qx) = Ev (OwsQ l (Q (.tup l) (o0 :: o1 :: o2 :: o3 :: o4 :: o5 :: o6 :: o7 :: o8 :: o9 :: o10 :: o11 :: o12 :: o13 :: o14 :: o15 :: o16 :: o17 :: o18 :: o19 :: o20 :: o21 :: o22 :: o23 :: some (.tup l) :: ρ))) := rfl
theorem ev_lv24 : ∀ {f : Path → D → Prop}, Ev (lVar 24 (o0 :: o1 :: o2 :: o3 :: o4 :: o5 :: o6 :: o7 :: o8 :: o9 :: o10 :: o11 :: o12 :: o13 :: o14 :: o15 :: o16 :: o17 :: o18 :: o19 :: o20 :: o21 :: o22 :: o23 :: some d :: ρ) f) = Ev (f (24, []) d) := rfl
theorem ev_app2_24 : Ev (AppQ2 (24, []) a Q y (o0 :: o1 :: o2 :: o3 :: o4 :: o5 :: o6 :: o7 :: o8 :: o9 :: o10 :: o11 :: o12 :: o13 :: o14 :: o15 :: o16 :: o17 :: o18 :: o19 :: o20 :: o21 :: o22 :: o23 :: some (.lst (some a) l) :: ρ)) = (l.length < sizeLine ∧ Ev (Q .non (o0 :: o1 :: o2 :: o3 :: o4 :: o5 :: o6 :: o7 :: o8 :: o9 :: o10 :: o11 :: o12 :: o13 :: o14 :: o15 :: o16 :: o17 :: o18 :: o19 :: o20 :: o21 :: o22 :: o23 :: some (.lst (some a) (l ++ [y])) :: ρ))) := propext ⟨fun h => h.2, fun h => ⟨rfl, h⟩⟩
theorem ev_aug24 : Ev (sAug 24 g2 we ⟨nx, rt, bk, ct, xx⟩ (o0 :: o1 :: o2 :: o3 :: o4 :: o5 :: o6 :: o7 :: o8 :: o9 :: o10 :: o11 :: o12 :: o13 :: o14 :: o15 :: o16 :: o17 :: o18 :: o19 :: o20 :: o21 :: o22 :: o23 :: some (.int i) :: ρ)) = Ev (we (o0 :: o1 :: o2 :: o3 :: o4 :: o5 :: o6 :: o7 :: o8 :: o9 :: o10 :: o11 :: o12 :: o13 :: o14 :: o15 :: o16 :: o17 :: o18 :: o19 :: o20 :: o21 :: o22 :: o23 :: some (.int i) :: ρ) (AugQ i 24 g2 nx) xx) := rfl
theorem ev_augq24 : Ev (AugQ i 24 g2 nx (.int j) (o0 :: o1 :: o2 :: o3 :: o4 :: o5 :: o6 :: o7 :: o8 :: o9 :: o10 :: o11 :: o12 :: o13 :: o14 :: o15 :: o16 :: o17 :: o18 :: o19 :: o20 :: o21 :: o22 :: o23 :: o24 :: ρ)) = Ev (nx (o0 :: o1 :: o2 :: o3 :: o4 :: o5 :: o6 :: o7 :: o8 :: o9 :: o10 :: o11 :: o12 :: o13 :: o14 :: o15 :: o16 :: o17 :: o18 :: o19 :: o20 :: o21 :: o22 :: o23 :: some (.int (g2 i j)) :: ρ)) := rfl
theorem ev_setixn24 : Ev (SetIxN (some m) y a l (o0 :: o1 :: o2 :: o3 :: o4 :: o5 :: o6 :: o7 :: o8 :: o9 :: o10 :: o11 :: o12 :: o13 :: o14 :: o15 :: o16 :: o17 :: o18 :: o19 :: o20 :: o21 :: o22 :: o23 :: some d :: ρ) (24, []) nx) = Ev (nx (o0 :: o1 :: o2 :: o3 :: o4 :: o5 :: o6 :: o7 :: o8 :: o9 :: o10 :: o11 :: o12 :: o13 :: o14 :: o15 :: o16 :: o17 :: o18 :: o19 :: o20 :: o21 :: o22 :: o23 :: some (.lst (some a) (l.set m y)) :: ρ)) := rfl
theorem ev_popq24 : Ev (PopQ Q (o0 :: o1 :: o2 :: o3 :: o4 :: o5 :: o6 :: o7 :: o8 :: o9 :: o10 :: o11 :: o12 :: o13 :: o14 :: o15 :: o16 :: o17 :: o18 :: o19 :: o20 :: o21 :: o22 :: o23 :: some d :: ρ) (24, []) (.lst (some a) (l ++ [y]))) = Ev (OwsQ (l ++ [y]) (Q y (o0 :: o1 :: o2 :: o3 :: o4 :: o5 :: o6 :: o7 :: o8 :: o9 :: o10 :: o11 :: o12 :: o13 :: o14 :: o15 :: o16 :: o17 :: o18 :: o19 :: o20 :: o21 :: o22 :: o23 :: some (.lst (some a) l) :: ρ))) := propext ⟨fun h => ⟨h.1, by obtain ⟨_, y2, h2, h3⟩ := h; rw [List.getLast?_concat] at h2; cases h2; have h4 : Q y (setP _ _ (.lst (some a) (l ++ [y]).dropLast)) := h3; rw [List.dropLast_concat] at h4; exact h4⟩, fun h => ⟨h.1, y, List.getLast?_concat, by show Q y (setP _ _ (.lst (some a) (l ++ [y]).dropLast)); rw [List.dropLast_concat]; exact h.2⟩⟩
theorem ev_lend24 : Ev (resA (.lend (24, []) a :: as) (o0 :: o1 :: o2 :: o3 :: o4 :: o5 :: o6 :: o7 :: o8 :: o9 :: o10 :: o11 :: o12 :: o13 :: o14 :: o15 :: o16 :: o17 :: o18 :: o19 :: o20 :: o21 :: o22 :: o23 :: some d :: ρ) RE) = Ev (AdQ (addr d) a (resA as (o0 :: o1 :: o2 :: o3 :: o4 :: o5 :: o6 :: o7 :: o8 :: o9 :: o10 :: o11 :: o12 :: o13 :: o14 :: o15 :: o16 :: o17 :: o18 :: o19 :: o20 :: o21 :: o22 :: o23 :: some (lent a) :: ρ) fun ds ρ' => RE (d :: ds) ρ')) := rfl
theorem ev_giveL24 : Ev (giveA (.lend (24, []) a :: as) (d :: ds) (o0 :: o1 :: o2 :: o3 :: o4 :: o5 :: o6 :: o7 :: o8 :: o9 :: o10 :: o11 :: o12 :: o13 :: o14 :: o15 :: o16 :: o17 :: o18 :: o19 :: o20 :: o21 :: o22 :: o23 :: some (lent a) :: ρ) QE) = Ev (giveA as ds (o0 :: o1 :: o2 :: o3 :: o4 :: o5 :: o6 :: o7 :: o8 :: o9 :: o10 :: o11 :: o12 :: o13 :: o14 :: o15 :: o16 :: o17 :: o18 :: o19 :: o20 :: o21 :: o22 :: o23 :: some d :: ρ) QE) := propext ⟨fun h => h.2, fun h => ⟨rfl, h⟩⟩
theorem ev_var25 : Ev (pVar 25 (o0 :: o1 :: o2 :: o3 :: o4 :: o5 :: o6 :: o7 :: o8 :: o9 :: o10 :: o11 :: o12 :: o13 :: o14 :: o15 :: o16 :: o17 :: o18 :: o19 :: o20 :: o21 :: o22 :: o23 :: o24 :: some d :: ρ) R) = Ev (R d) := rfl
theorem ev_set25 : Ev (SetK 25 oo (o0 :: o1 :: o2 :: o3 :: o4 :: o5 :: o6 :: o7 :: o8 :: o9 :: o10 :: o11 :: o12 :: o13 :: o14 :: o15 :: o16 :: o17 :: o18 :: o19 :: o20 :: o21 :: o22 :: o23 :: o24 :: o25 :: ρ) QE) = Ev (QE (o0 :: o1 :: o2 :: o3 :: o4 :: o5 :: o6 :: o7 :: o8 :: o9 :: o10 :: o11 :: o12 :: o13 :: o14 :: o15 :: o16 :: o17 :: o18 :: o19 :: o20 :: o21 :: o22 :: o23 :: o24 :: oo :: ρ)) := rfl
theorem ev_mov25 : Ev (eMov 25 (o0 :: o1 :: o2 :: o3 :: o4 :: o5 :: o6 :: o7 :: o8 :: o9 :: o10 :: o11 :: o12 :: o13 :: o14 :: o15 :: o16 :: o17 :: o18 :: o19 :: o20 :: o21 :: o22 :: o23 :: o24 :: some d :: ρ) Q Qx) = Ev (Q d (o0 :: o1 :: o2 :: o3 :: o4 :: o5 :: o6 :: o7 :: o8 :: o9 :: o10 :: o11 :: o12 :: o13 :: o14 :: o15 :: o16 :: o17 :: o18 :: o19 :: o20 :: o21 :: o22 :: o23 :: o24 :: none :: ρ)) := rfl
theorem ev_frz25 : Ev (eFrz 25 (o0 :: o1 :: o2 :: o3 :: o4 :: o5 :: o6 :: o7 :: o8 :: o9 :: o10 :: o11 :: o12 :: o13 :: o14 :: o15 :: o16 :: o17 :: o18 :: o19 :: o20 :: o21 :: o22 :: o23 :: o24 :: some (.lst ma l) :: ρ) Q Qx) = Ev (OwsQ l (Q (.lst none l) (o0 :: o1 :: o2 :: o3 :: o4 :: o5 :: o6 :: o7 :: o8 :: o9 :: o10 :: o11 :: o12 :: o13 :: o14 :: o15 :: o16 :: o17 :: o18 :: o19 :: o20 :: o21 :: o22 :: o23 :: o24 :: some (.lst none l) :: ρ))) := rfl
theorem ev_frzT25 : Ev (eFrz 25 (o0 :: o1 :: o2 :: o3 :: o4 :: o5 :: o6 :: o7 :: o8 :: o9 :: o10 :: o11 :: o12 :: o13 :: o14 :: o15 :: o16 :: o17 :: o18 :: o19 :: o20 :: o21 :: o22 :: o23 :: o24 :: some (.tup l) :: ρ) Q Qx) = Ev (OwsQ l (Q (.tup l) (o0 :: o1 :: o2 :: o3 :: o4 :: o5 :: o6 :: o7 :: o8 :: o9 :: o10 :: o11 :: o12 :: o13 :: o14 :: o15 :: o16 :: o17 :: o18 :: o19 :: o20 :: o21 :: o22 :: o23 :: o24 :: some (.tup l) :: ρ))) := rfl
theorem ev_lv25 : ∀ {f : Path → D → Prop}, Ev (lVar 25 (o0 :: o1 :: o2 :: o3 :: o4 :: o5 :: o6 :: o7 :: o8 :: o9 :: o10 :: o11 :: o12 :: o13 :: o14 :: o15 :: o16 :: o17 :: o18 :: o19 :: o20 :: o21 :: o22 :: o23 :: o24 :: some d :: ρ) f) = Ev (f (25, []) d) := rfl
theorem ev_app2_25 : Ev (AppQ2 (25, []) a Q y (o0 :: o1 :: o2 :: o3 :: o4 :: o5 :: o6 :: o7 :: o8 :: o9 :: o10 :: o11 :: o12 :: o13 :: o14 :: o15 :: o16 :: o17 :: o18 :: o19 :: o20 :: o21 :: o22 :: o23 :: o24 :: some (.lst (some a) l) :: ρ)) = (l.length < sizeLine ∧ Ev (Q .non (o0 :: o1 :: o2 :: o3 :: o4 :: o5 :: o6 :: o7 :: o8 :: o9 :: o10 :: o11 :: o12 :: o13 :: o14 :: o15 :: o16 :: o17 :: o18 :: o19 :: o20 :: o21 :: o22 :: o23 :: o24 :: some (.lst (some a) (l ++ [y])) :: ρ))) := propext ⟨fun h => h.2, fun h => ⟨rfl, h⟩⟩
theorem ev_aug25 : Ev (sAug 25 g2 we ⟨nx, rt, bk, ct, xx⟩ (o0 :: o1 :: o2 :: o3 :: o4 :: o5 :: o6 :: o7 :: o8 :: o9 :: o10 :: o11 :: o12 :: o13 :: o14 :: o15 :: o16 :: o17 :: o18 :: o19 :: o20 :: o21 :: o22 :: o23 :: o24 :: some (.int i) :: ρ)) = Ev (we (o0 :: o1 :: o2 :: o3 :: o4 :: o5 :: o6 :: o7 :: o8 :: o9 :: o10 :: o11 :: o12 :: o13 :: o14 :: o15 :: o16 :: o17 :: o18 :: o19 :: o20 :: o21 :: o22 :: o23 :: o24 :: some (.int i) :: ρ) (AugQ i 25 g2 nx) xx) := rfl
theorem ev_augq25 : Ev (AugQ i 25 g2 nx (.int j) (o0 :: o1 :: o2 :: o3 :: o4 :: o5 :: o6 :: o7 :: o8 :: o9 :: o10 :: o11 :: o12 :: o13 :: o14 :: o15 :: o16 :: o17 :: o18 :: o19 :: o20 :: o21 :: o22 :: o23 :: o24 :: o25 :: ρ)) = Ev (nx (o0 :: o1 :: o2 :: o3 :: o4 :: o5 :: o6 :: o7 :: o8 :: o9 :: o10 :: o11 :: o12 :: o13 :: o14 :: o15 :: o16 :: o17 :: o18 :: o19 :: o20 :: o21 :: o22 :: o23 :: o24 :: some (.int (g2 i j)) :: ρ)) := rfl
theorem ev_setixn25 : Ev (SetIxN (some m) y a l (o0 :: o1 :: o2 :: o3 :: o4 :: o5 :: o6 :: o7 :: o8 :: o9 :: o10 :: o11 :: o12 :: o13 :: o14 :: o15 :: o16 :: o17 :: o18 :: o19 :: o20 :: o21 :: o22 :: o23 :: o24 :: some d :: ρ) (25, []) nx) = Ev (nx (o0 :: o1 :: o2 :: o3 :: o4 :: o5 :: o6 :: o7 :: o8 :: o9 :: o10 :: o11 :: o12 :: o13 :: o14 :: o15 :: o16 :: o17 :: o18 :: o19 :: o20 :: o21 :: o22 :: o23 :: o24 :: some (.lst (some a) (l.set m y)) :: ρ)) := rfl
theorem ev_popq25 : Ev (PopQ Q (o0 :: o1 :: o2 :: o3 :: o4 :: o5 :: o6 :: o7 :: o8 :: o9 :: o10 :: o11 :: o12 :: o13 :: o14 :: o15 :: o16 :: o17 :: o18 :: o19 :: o20 :: o21 :: o22 :: o23 :: o24 :: some d :: ρ) (25, []) (.lst (some a) (l ++ [y]))) = Ev (OwsQ (l ++ [y]) (Q y (o0 :: o1 :: o2 :: o3 :: o4 :: o5 :: o6 :: o7 :: o8 :: o9 :: o10 :: o11 :: o12 :: o13 :: o14 :: o15 :: o16 :: o17 :: o18 :: o19 :: o20 :: o21 :: o22 :: o23 :: o24 :: some (.lst (some a) l) :: ρ))) := propext ⟨fun h => ⟨h.1, by obtain ⟨_, y2, h2, h3⟩ := h; rw [List.getLast?_concat] at h2; cases h2; have h4 : Q y (setP _ _ (.lst (some a) (l ++ [y]).dropLast)) := h3; rw [List.dropLast_concat] at h4; exact h4⟩, fun h => ⟨h.1, y, List.getLast?_concat, by show Q y (setP _ _ (.lst (some a) (l ++ [y]).dropLast)); rw [List.dropLast_concat]; exact h.2⟩⟩
theorem ev_lend25 : Ev (resA (.lend (25, []) a :: as) (o0 :: o1 :: o2 :: o3 :: o4 :: o5 :: o6 :: o7 :: o8 :: o9 :: o10 :: o11 :: o12 :: o13 :: o14 :: o15 :: o16 :: o17 :: o18 :: o19 :: o20 :: o21 :: o22 :: o23 :: o24 :: some d :: ρ) RE) = Ev (AdQ (addr d) a (resA as (o0 :: o1 :: o2 :: o3 :: o4 :: o5 :: o6 :: o7 :: o8 :: o9 :: o10 :: o11 :: o12 :: o13 :: o14 :: o15 :: o16 :: o17 :: o18 :: o19 :: o20 :: o21 :: o22 :: o23 :: o24 :: some (lent a) :: ρ) fun ds ρ' => RE (d :: ds) ρ')) := rfl
theorem ev_giveL25 : Ev (giveA (.lend (25, []) a :: as) (d :: ds) (o0 :: o1 :: o2 :: o3 :: o4 :: o5 :: o6 :: o7 :: o8 :: o9 :: o10 :: o11 :: o12 :: o13 :: o14 :: o15 :: o16 :: o17 :: o18 :: o19 :: o20 :: o21 :: o22 :: o23 :: o24 :: some (lent a) :: ρ) QE) = Ev (giveA as ds (o0 :: o1 :: o2 :: o3 :: o4 :: o5 :: o6 :: o7 :: o8 :: o9 :: o10 :: o11 :: o12 :: o13 :: o14 :: o15 :: o16 :: o17 :: o18 :: o19 :: o20 :: o21 :: o22 :: o23 :: o24 :: some d :: ρ) QE) := propext ⟨fun h => h.2, fun h => ⟨rfl, h⟩⟩
theorem ev_var26 : Ev (pVar 26 (o0 :: o1 :: o2 :: o3 :: o4 :: o5 :: o6 :: o7 :: o8 :: o9 :: o10 :: o11 :: o12 :: o13 :: o14 :: o15 :: o16 :: o17 :: o18 :: o19 :: o20 :: o21 :: o22 :: o23 :: o24 :: o25 :: some d :: ρ) R) = Ev (R d) := rfl
theorem ev_set26 : Ev (SetK 26 oo (o0 :: o1 :: o2 :: o3 :: o4 :: o5 :: o6 :: o7 :: o8 :: o9 :: o10 :: o11 :: o12 :: o13 :: o14 :: o15 :: o16 :: o17 :: o18 :: o19 :: o20 :: o21 :: o22 :: o23 :: o24 :: o25 :: o26 :: ρ) QE) = Ev (QE (o0 :: o1 :: o2 :: o3 :: o4 :: o5 :: o6 :: o7 :: o8 :: o9 :: o10 :: o11 :: o12 :: o13 :: o14 :: o15 :: o16 :: o17 :: o18 :: o19 :: o20 :: o21 :: o22 :: o23 :: o24 :: o25 :: oo :: ρ)) := rfl
theorem ev_mov26 : Ev (eMov 26 (o0 :: o1 :: o2 :: o3 :: o4 :: o5 :: o6 :: o7 :: o8 :: o9 :: o10 :: o11 :: o12 :: o13 :: o14 :: o15 :: o16 :: o17 :: o18 :: o19 :: o20 :: o21 :: o22 :: o23 :: o24 :: o25 :: some d :: ρ) Q Qx) = Ev (Q d (o0 :: o1 :: o2 :: o3 :: o4 :: o5 :: o6 :: o7 :: o8 :: o9 :: o10 :: o11 :: o12 :: o13 :: o14 :: o15 :: o16 :: o17 :: o18 :: o19 :: o20 :: o21 :: o22 :: o23 :: o24 :: o25 :: none :: ρ)) := rfl
theorem ev_frz26 : Ev (eFrz 26 (o0 :: o1 :: o2 :: o3 :: o4 :: o5 :: o6 :: o7 :: o8 :: o9 :: o10 :: o11 :: o12 :: o13 :: o14 :: o15 :: o16 :: o17 :: o18 :: o19 :: o20 :: o21 :: o22 :: o23 :: o24 :: o25 :: some (.lst ma l) :: ρ) Q Qx) = Ev (OwsQ l (Q (.lst none l) (o0 :: o1 :: o2 :: o3 :: o4 :: o5 :: o6 :: o7 :: o8 :: o9 :: o10 :: o11 :: o12 :: o13 :: o14 :: o15 :: o16 :: o17 :: o18 :: o19 :: o20 :: o21 :: o22 :: o23 :: o24 :: o25 :: some (.lst none l) :: ρ))) := rfl
theorem ev_frzT26 : Ev (eFrz 26 (o0 :: o1 :: o2 :: o3 :: o4 :: o5 :: o6 :: o7 :: o8 :: o9 :: o10 :: o11 :: o12 :: o13 :: o14 :: o15 :: o16 :: o17 :: o18 :: o19 :: o20 :: o21 :: o22 :: o23 :: o24 :: o25 :: some (.tup l) :: ρ) Q Qx) = Ev (OwsQ l (Q (.tup l) (o0 :: o1 :: o2 :: o3 :: o4 :: o5 :: o6 :: o7 :: o8 :: o9 :: o10 :: o11 :: o12 :: o13 :: o14 :: o15 :: o16 :: o17 :: o18 :: o19 :: o20 :: o21 :: o22 :: o23 :: o24 :: o25 :: some (.tup l) :: ρ))) := rfl
theorem ev_lv26 : ∀ {f : Path → D → Prop}, Ev (lVar 26 (o0 :: o1 :: o2 :: o3 :: o4 :: o5 :: o6 :: o7 :: o8 :: o9 :: o10 :: o11 :: o12 :: o13 :: o14 :: o15 :: o16 :: o17 :: o18 :: o19 :: o20 :: o21 :: o22 :: o23 :: o24 :: o25 :: some d :: ρ) f) = Ev (f (26, []) d) := rfl
theorem ev_app2_26 : Ev (AppQ2 (26, []) a Q y (o0 :: o1 :: o2 :: o3 :: o4 :: o5 :: o6 :: o7 :: o8 :: o9 :: o10 :: o11 :: o12 :: o13 :: o14 :: o15 :: o16 :: o17 :: o18 :: o19 :: o20 :: o21 :: o22 :: o23 :: o24 :: o25 :: some (.lst (some a) l) :: ρ)) = (l.length < sizeLine ∧ Ev (Q .non (o0 :: o1 :: o2 :: o3 :: o4 :: o5 :: o6 :: o7 :: o8 :: o9 :: o10 :: o11 :: o12 :: o13 :: o14 :: o15 :: o16 :: o17 :: o18 :: o19 :: o20 :: o21 :: o22 :: o23 :: o24 :: o25 :: some (.lst (some a) (l ++ [y])) :: ρ))) := propext ⟨fun h => h.2, fun h => ⟨rfl, h⟩⟩
theorem ev_aug26 : Ev (sAug 26 g2 we ⟨nx, rt, bk, ct, xx⟩ (o0 :: o1 :: o2 :: o3 :: o4 :: o5 :: o6 :: o7 :: o8 :: o9 :: o10 :: o11 :: o12 :: o13 :: o14 :: o15 :: o16 :: o17 :: o18 :: o19 :: o20 :: o21 :: o22 :: o23 :: o24 :: o25 :: some (.int i) :: ρ)) = Ev (we (o0 :: o1 :: o2 :: o3 :: o4 :: o5 :: o6 :: o7 :: o8 :: o9 :: o10 :: o11 :: o12 :: o13 :: o14 :: o15 :: o16 :: o17 :: o18 :: o19 :: o20 :: o21 :: o22 :: o23 :: o24 :: o25 :: some (.int i) :: ρ) (AugQ i 26 g2 nx) xx) := rfl
theorem ev_augq26 : Ev (AugQ i 26 g2 nx (.int j) (o0 :: o1 :: o2 :: o3 :: o4 :: o5 :: o6 :: o7 :: o8 :: o9 :: o10 :: o11 :: o12 :: o13 :: o14 :: o15 :: o16 :: o17 :: o18 :: o19 :: o20 :: o21 :: o22 :: o23 :: o24 :: o25 :: o26 :: ρ)) = Ev (nx (o0 :: o1 :: o2 :: o3 :: o4 :: o5 :: o6 :: o7 :: o8 :: o9 :: o10 :: o11 :: o12 :: o13 :: o14 :: o15 :: o16 :: o17 :: o18 :: o19 :: o20 :: o21 :: o22 :: o23 :: o24 :: o25 :: some (.int (g2 i j)) :: ρ)) := rfl
theorem ev_setixn26 : Ev (SetIxN (some m) y a l (o0 :: o1 :: o2 :: o3 :: o4 :: o5 :: o6 :: o7 :: o8 :: o9 :: o10 :: o11 :: o12 :: o13 :: o14 :: o15 :: o16 :: o17 :: o18 :: o19 :: o20 :: o21 :: o22 :: o23 :: o24 :: o25 :: some d :: ρ) (26, []) nx) = Ev (nx (o0 :: o1 :: o2 :: o3 :: o4 :: o5 :: o6 :: o7 :: o8 :: o9 :: o10 :: o11 :: o12 :: o13 :: o14 :: o15 :: o16 :: o17 :: o18 :: o19 :: o20 :: o21 :: o22 :: o23 :: o24 :: o25 :: some (.lst (some a) (l.set m y)) :: ρ)) := rfl
theorem ev_popq26 : Ev (PopQ Q (o0 :: o1 :: o2 :: o3 :: o4 :: o5 :: o6 :: o7 :: o8 :: o9 :: o10 :: o11 :: o12 :: o13 :: o14 :: o15 :: o16 :: o17 :: o18 :: o19 :: o20 :: o21 :: o22 :: o23 :: o24 :: o25 :: some d :: ρ) (26, []) (.lst (some a) (l ++ [y]))) = Ev (OwsQ (l ++ [y]) (Q y (o0 :: o1 :: o2 :: o3 :: o4 :: o5 :: o6 :: o7 :: o8 :: o9 :: o10 :: o11 :: o12 :: o13 :: o14 :: o15 :: o16 :: o17 :: o18 :: o19 :: o20 :: o21 :: o22 :: o23 :: o24 :: o25 :: some (.lst (some a) l) :: ρ))) := propext ⟨fun h => ⟨h.1, by obtain ⟨_, y2, h2, h3⟩ := h; rw [List.getLast?_concat] at h2; cases h2; have h4 : Q y (setP _ _ (.lst (some a) (l ++ [y]).dropLast)) := h3; rw [List.dropLast_concat] at h4; exact h4⟩, fun h => ⟨h.1, y, List.getLast?_concat, by show Q y (setP _ _ (.lst (some a) (l ++ [y]).dropLast)); rw [List.dropLast_concat]; exact h.2⟩⟩
theorem ev_lend26 : Ev (resA (.lend (26, []) a :: as) (o0 :: o1 :: o2 :: o3 :: o4 :: o5 :: o6 :: o7 :: o8 :: o9 :: o10 :: o11 :: o12 :: o13 :: o14 :: o15 :: o16 :: o17 :: o18 :: o19 :: o20 :: o21 :: o22 :: o23 :: o24 :: o25 :: some d :: ρ) RE) = Ev (AdQ (addr d) a (resA as (o0 :: o1 :: o2 :: o3 :: o4 :: o5 :: o6 :: o7 :: o8 :: o9 :: o10 :: o11 :: o12 :: o13 :: o14 :: o15 :: o16 :: o17 :: o18 :: o19 :: o20 :: o21 :: o22 :: o23 :: o24 :: o25 :: some (lent a) :: ρ) fun ds ρ' => RE (d :: ds) ρ')) := rfl
theorem ev_giveL26 : Ev (giveA (.lend (26, []) a :: as) (d :: ds) (o0 :: o1 :: o2 :: o3 :: o4 :: o5 :: o6 :: o7 :: o8 :: o9 :: o10 :: o11 :: o12 :: o13 :: o14 :: o15 :: o16 :: o17 :: o18 :: o19 :: o20 :: o21 :: o22 :: o23 :: o24 :: o25 :: some (lent a) :: ρ) QE) = Ev (giveA as ds (o0 :: o1 :: o2 :: o3 :: o4 :: o5 :: o6 :: o7 :: o8 :: o9 :: o10 :: o11 :: o12 :: o13 :: o14 :: o15 :: o16 :: o17 :: o18 :: o19 :: o20 :: o21 :: o22 :: o23 :: o24 :: o25 :: some d :: ρ) QE) := propext ⟨fun h => h.2, fun h => ⟨rfl, h⟩⟩
theorem ev_var27 : Ev (pVar 27 (o0 :: o1 :: o2 :: o3 :: o4 :: o5 :: o6 :: o7 :: o8 :: o9 :: o10 :: o11 :: o12 :: o13 :: o14 :: o15 :: o16 :: o17 :: o18 :: o19 :: o20 :: o21 :: o22 :: o23 :: o24 :: o25 :: o26 :: some d :: ρ) R) = Ev (R d) := rfl
theorem ev_set27 : Ev (SetK 27 oo (o0 :: o1 :: o2 :: o3 :: o4 :: o5 :: o6 :: o7 :: o8 :: o9 :: o10 :: o11 :: o12 :: o13 :: o14 :: o15 :: o16 :: o17 :: o18 :: o19 :: o20 :: o21 :: o22 :: o23 :: o24 :: o25 :: o26 :: o27 :: ρ) QE) = Ev (QE (o0 :: o1 :: o2 :: o3 :: o4 :: o5 :: o6 :: o7 :: o8 :: o9 :: o10 :: o11 :: o12 :: o13 :: o14 :: o15 :: o16 :: o17 :: o18 :: o19 :: o20 :: o21 :: o22 :: o23 :: o24 :: o25 :: o26 :: oo :: ρ)) := rfl
theorem ev_mov27 : Ev (eMov 27 (o0 :: o1 :: o2 :: o3 :: o4 :: o5 :: o6 :: o7 :: o8 :: o9 :: o10 :: o11 :: o12 :: o13 :: o14 :: o15 :: o16 :: o17 :: o18 :: o19 :: o20 :: o21 :: o22 :: o23 :: o24 :: o25 :: o26 :: some d :: ρ) Q Qx) = Ev (Q d (o0 :: o1 :: o2 :: o3 :: o4 :: o5 :: o6 :: o7 :: o8 :: o9 :: o10 :: o11 :: o12 :: o13 :: o14 :: o15 :: o16 :: o17 :: o18 :: o19 :: o20 :: o21 :: o22 :: o23 :: o24 :: o25 :: o26 :: none :: ρ)) := rfl
theorem ev_frz27 : Ev (eFrz 27 (o0 :: o1 :: o2 :: o3 :: o4 :: o5 :: o6 :: o7 :: o8 :: o9 :: o10 :: o11 :: o12 :: o13 :: o14 :: o15 :: o16 :: o17 :: o18 :: o19 :: o20 :: o21 :: o22 :: o23 :: o24 :: o25 :: o26 :: some (.lst ma l) :: ρ) Q Qx) = Ev (OwsQ l (Q (.lst none l) (o0 :: o1 :: o2 :: o3 :: o4 :: o5 :: o6 :: o7 :: o8 :: o9 :: o10 :: o11 :: o12 :: o13 :: o14 :: o15 :: o16 :: o17 :: o18 :: o19 :: o20 :: o21 :: o22 :: o23 :: o24 :: o25 :: o26 :: some (.lst none l) :: ρ))) := rfl
theorem ev_frzT27 : Ev (eFrz 27 (o0 :: o1 :: o2 :: o3 :: o4 :: o5 :: o6 :: o7 :: o8 :: o9 :: o10 :: o11 :: o12 :: o13 :: o14 :: o15 :: o16 :: o17 :: o18 :: o19 :: o20 :: o21 :: o22 :: o23 :: o24 :: o25 :: o26 :: some (.tup l) :: ρ) Q Qx) = Ev (OwsQ l (Q (.tup l) (o0 :: o1 :: o2 :: o3 :: o4 :: o5 :: o6 :: o7 :: o8 :: o9 :: o10 :: o11 :: o12 :: o13 :: o14 :: o15 :: o16 :: o17 :: o18 :: o19 :: o20 :: o21 :: o22 :: o23 :: o24 :: o25 :: o26 :: some (.tup l) :: ρ))) := rfl
theorem ev_lv27 : ∀ {f : Path → D → Prop}, Ev (lVar 27 (o0 :: o1 :: o2 :: o3 :: o4 :: o5 :: o6 :: o7 :: o8 :: o9 :: o10 :: o11 :: o12 :: o13 :: o14 :: o15 :: o16 :: o17 :: o18 :: o19 :: o20 :: o21 :: o22 :: o23 :: o24 :: o25 :: o26 :: some d :: ρ) f) = Ev (f (27, []) d) := rfl
theorem ev_app2_27 : Ev (AppQ2 (27, []) a Q y (o0 :: o1 :: o2 :: o3 :: o4 :: o5 :: o6 :: o7 :: o8 :: o9 :: o10 :: o11 :: o12 :: o13 :: o14 :: o15 :: o16 :: o17 :: o18 :: o19 :: o20 :: o21 :: o22 :: o23 :: o24 :: o25 :: o26 :: some (.lst (some a) l) :: ρ)) = (l.length < sizeLine ∧ Ev (Q .non (o0 :: o1 :: o2 :: o3 :: o4 :: o5 :: o6 :: o7 :: o8 :: o9 :: o10 :: o11 :: o12 :: o13 :: o14 :: o15 :: o16 :: o17 :: o18 :: o19 :: o20 :: o21 :: o22 :: o23 :: o24 :: o25 :: o26 :: some (.lst (some a) (l ++ [y])) :: ρ))) := propext ⟨fun h => h.2, fun h => ⟨rfl, h⟩⟩
theorem ev_aug27 : Ev (sAug 27 g2 we ⟨nx, rt, bk, ct, xx⟩ (o0 :: o1 :: o2 :: o3 :: o4 :: o5 :: o6 :: o7 :: o8 :: o9 :: o10 :: o11 :: o12 :: o13 :: o14 :: o15 :: o16 :: o17 :: o18 :: o19 :: o20 :: o21 :: o22 :: o23 :: o24 :: o25 :: o26 :: some (.int i) :: ρ)) = Ev (we (o0 :: o1 :: o2 :: o3 :: o4 :: o5 :: o6 :: o7 :: o8 :: o9 :: o10 :: o11 :: o12 :: o13 :: o14 :: o15 :: o16 :: o17 :: o18 :: o19 :: o20 :: o21 :: o22 :: o23 :: o24 :: o25 :: o26 :: some (.int i) :: ρ) (AugQ i 27 g2 nx) xx) := rfl
theorem ev_augq27 : Ev (AugQ i 27 g2 nx (.int j) (o0 :: o1 :: o2 :: o3 :: o4 :: o5 :: o6 :: o7 :: o8 :: o9 :: o10 :: o11 :: o12 :: o13 :: o14 :: o15 :: o16 :: o17 :: o18 :: o19 :: o20 :: o21 :: o22 :: o23 :: o24 :: o25 :: o26 :: o27 :: ρ)) = Ev (nx (o0 :: o1 :: o2 :: o3 :: o4 :: o5 :: o6 :: o7 :: o8 :: o9 :: o10 :: o11 :: o12 :: o13 :: o14 :: o15 :: o16 :: o17 :: o18 :: o19 :: o20 :: o21 :: o22 :: o23 :: o24 :: o25 :: o26 :: some (.int (g2 i j)) :: ρ)) := rfl
theorem ev_setixn27 : Ev (SetIxN (some m) y a l (o0 :: o1 :: o2 :: o3 :: o4 :: o5 :: o6 :: o7 :: o8 :: o9 :: o10 :: o11 :: o12 :: o13 :: o14 :: o15 :: o16 :: o17 :: o18 :: o19 :: o20 :: o21 :: o22 :: o23 :: o24 :: o25 :: o26 :: some d :: ρ) (27, []) nx) = Ev (nx (o0 :: o1 :: o2 :: o3 :: o4 :: o5 :: o6 :: o7 :: o8 :: o9 :: o10 :: o11 :: o12 :: o13 :: o14 :: o15 :: o16 :: o17 :: o18 :: o19 :: o20 :: o21 :: o22 :: o23 :: o24 :: o25 :: o26 :: some (.lst (some a) (l.set m y)) :: ρ)) := rfl
theorem ev_popq27 : Ev (PopQ Q (o0 :: o1 :: o2 :: o3 :: o4 :: o5 :: o6 :: o7 :: o8 :: o9 :: o10 :: o11 :: o12 :: o13 :: o14 :: o15 :: o16 :: o17 :: o18 :: o19 :: o20 :: o21 :: o22 :: o23 :: o24 :: o25 :: o26 :: some d :: ρ) (27, []) (.lst (some a) (l ++ [y]))) = Ev (OwsQ (l ++ [y]) (Q y (o0 :: o1 :: o2 :: o3 :: o4 :: o5 :: o6 :: o7 :: o8 :: o9 :: o10 :: o11 :: o12 :: o13 :: o14 :: o15 :: o16 :: o17 :: o18 :: o19 :: o20 :: o21 :: o22 :: o23 :: o24 :: o25 :: o26 :: some (.lst (some a) l) :: ρ))) := propext ⟨fun h => ⟨h.1, by obtain ⟨_, y2, h2, h3⟩ := h; rw [List.getLast?_concat] at h2; cases h2; have h4 : Q y (setP _ _ (.lst (some a) (l ++ [y]).dropLast)) := h3; rw [List.dropLast_concat] at h4; exact h4⟩, fun h => ⟨h.1, y, List.getLast?_concat, by show Q y (setP _ _ (.lst (some a) (l ++ [y]).dropLast)); rw [List.dropLast_concat]; exact h.2⟩⟩
theorem ev_lend27 : Ev (resA (.lend (27, []) a :: as) (o0 :: o1 :: o2 :: o3 :: o4 :: o5 :: o6 :: o7 :: o8 :: o9 :: o10 :: o11 :: o12 :: o13 :: o14 :: o15 :: o16 :: o17 :: o18 :: o19 :: o20 :: o21 :: o22 :: o23 :: o24 :: o25 :: o26 :: some d :: ρ) RE) = Ev (AdQ (addr d) a (resA as (o0 :: o1 :: o2 :: o3 :: o4 :: o5 :: o6 :: o7 :: o8 :: o9 :: o10 :: o11 :: o12 :: o13 :: o14 :: o15 :: o16 :: o17 :: o18 :: o19 :: o20 :: o21 :: o22 :: o23 :: o24 :: o25 :: o26 :: some (lent a) :: ρ) fun ds ρ' => RE (d :: ds) ρ')) := rfl
theorem ev_giveL27 : Ev (giveA (.lend (27, []) a :: as) (d :: ds) (o0 :: o1 :: o2 :: o3 :: o4 :: o5 :: o6 :: o7 :: o8 :: o9 :: o10 :: o11 :: o12 :: o13 :: o14 :: o15 :: o16 :: o17 :: o18 :: o19 :: o20 :: o21 :: o22 :: o23 :: o24 :: o25 :: o26 :: some (lent a) :: ρ) QE) = Ev (giveA as ds (o0 :: o1 :: o2 :: o3 :: o4 :: o5 :: o6 :: o7 :: o8 :: o9 :: o10 :: o11 :: o12 :: o13 :: o14 :: o15 :: o16 :: o17 :: o18 :: o19 :: o20 :: o21 :: o22 :: o23 :: o24 :: o25 :: o26 :: some d :: ρ) QE) := propext ⟨fun h => h.2, fun h => ⟨rfl, h⟩⟩
theorem ev_var28 : Ev (pVar 28 (o0 :: o1 :: o2 :: o3 :: o4 :: o5 :: o6 :: o7 :: o8 :: o9 :: o10 :: o11 :: o12 :: o13 :: o14 :: o15 :: o16 :: o17 :: o18 :: o19 :: o20 :: o21 :: o22 :: o23 :: o24 :: o25 :: o26 :: o27 :: some d :: ρ) R) = Ev (R d) := rfl
theorem ev_set28 : Ev (SetK 28 oo (o0 :: o1 :: o2 :: o3 :: o4 :: o5 :: o6 :: o7 :: o8 :: o9 :: o10 :: o11 :: o12 :: o13 :: o14 :: o15 :: o16 :: o17 :: o18 :: o19 :: o20 :: o21 :: o22 :: o23 :: o24 :: o25 :: o26 :: o27 :: o28 :: ρ) QE) = Ev (QE (o0 :: o1 :: o2 :: o3 :: o4 :: o5 :: o6 :: o7 :: o8 :: o9 :: o10 :: o11 :: o12 :: o13 :: o14 :: o15 :: o16 :: o17 :: o18 :: o19 :: o20 :: o21 :: o22 :: o23 :: o24 :: o25 :: o26 :: o27 :: oo :: ρ)) := rfl
theorem ev_mov28 : Ev (eMov 28 (o0 :: o1 :: o2 :: o3 :: o4 :: o5 :: o6 :: o7 :: o8 :: o9 :: o10 :: o11 :: o12 :: o13 :: o14 :: o15 :: o16 :: o17 :: o18 :: o19 :: o20 :: o21 :: o22 :: o23 :: o24 :: o25 :: o26 :: o27 :: some d :: ρ) Q Qx) = Ev (Q d (o0 :: o1 :: o2 :: o3 :: o4 :: o5 :: o6 :: o7 :: o8 :: o9 :: o10 :: o11 :: o12 :: o13 :: o14 :: o15 :: o16 :: o17 :: o18 :: o19 :: o20 :: o21 :: o22 :: o23 :: o24 :: o25 :: o26 :: o27 :: none :: ρ)) := rfl
theorem ev_frz28 : Ev (eFrz 28 (o0 :: o1 :: o2 :: o3 :: o4 :: o5 :: o6 :: o7 :: o8 :: o9 :: o10 :: o11 :: o12 :: o13 :: o14 :: o15 :: o16 :: o17 :: o18 :: o19 :: o20 :: o21 :: o22 :: o23 :: o24 :: o25 :: o26 :: o27 :: some (.lst ma l) :: ρ) Q Qx) = Ev (OwsQ l (Q (.lst none l) (o0 :: o1 :: o2 :: o3 :: o4 :: o5 :: o6 :: o7 :: o8 :: o9 :: o10 :: o11 :: o12 :: o13 :: o14 :: o15 :: o16 :: o17 :: o18 :: o19 :: o20 :: o21 :: o22 :: o23 :: o24 :: o25 :: o26 :: o27 :: some (.lst none l) :: ρ))) := rfl
theorem ev_frzT28 : Ev (eFrz 28 (o0 :: o1 :: o2 :: o3 :: o4 :: o5 :: o6 :: o7 :: o8 :: o9 :: o10 :: o11 :: o12 :: o13 :: o14 :: o15 :: o16 :: o17 :: o18 :: o19 :: o20 :: o21 :: o22 :: o23 :: o24 :: o25 :: o26 :: o27 :: some (.tup l) :: ρ) Q Qx) = Ev (OwsQ l (Q (.tup l) (o0 :: o1 :: o2 :: o3 :: o4 :: o5 :: o6 :: o7 :: o8 :: o9 :: o10 :: o11 :: o12 :: o13 :: o14 :: o15 :: o16 :: o17 :: o18 :: o19 :: o20 :: o21 :: o22 :: o23 :: o24 :: o25 :: o26 :: o27 :: some (.tup l) :: ρ))) := rfl
theorem ev_lv28 : ∀ {f : Path → D → Prop}, Ev (lVar 28 (o0 :: o1 :: o2 :: o3 :: o4 :: o5 :: o6 :: o7 :: o8 :: o9 :: o10 :: o11 :: o12 :: o13 :: o14 :: o15 :: o16 :: o17 :: o18 :: o19 :: o20 :: o21 :: o22 :: o23 :: o24 :: o25 :: o26 :: o27 :: some d :: ρ) f) = Ev (f (28, []) d) := rfl
theorem ev_app2_28 : Ev (AppQ2 (28, []) a Q y (o0 :: o1 :: o2 :: o3 :: o4 :: o5 :: o6 :: o7 :: o8 :: o9 :: o10 :: o11 :: o12 :: o13 :: o14 :: o15 :: o16 :: o17 :: o18 :: o19 :: o20 :: o21 :: o22 :: o23 :: o24 :: o25 :: o26 :: o27 :: some (.lst (some a) l) :: ρ)) = (l.length < sizeLine ∧ Ev (Q .non (o0 :: o1 :: o2 :: o3 :: o4 :: o5 :: o6 :: o7 :: o8 :: o9 :: o10 :: o11 :: o12 :: o13 :: o14 :: o15 :: o16 :: o17 :: o18 :: o19 :: o20 :: o21 :: o22 :: o23 :: o24 :: o25 :: o26 :: o27 :: some (.lst (some a) (l ++ [y])) :: ρ))) := propext ⟨fun h => h.2, fun h => ⟨rfl, h⟩⟩
theorem ev_aug28 : Ev (sAug 28 g2 we ⟨nx, rt, bk, ct, xx⟩ (o0 :: o1 :: o2 :: o3 :: o4 :: o5 :: o6 :: o7 :: o8 :: o9 :: o10 :: o11 :: o12 :: o13 :: o14 :: o15 :: o16 :: o17 :: o18 :: o19 :: o20 :: o21 :: o22 :: o23 :: o24 :: o25 :: o26 :: o27 :: some (.int i) :: ρ)) = Ev (we (o0 :: o1 :: o2 :: o3 :: o4 :: o5 :: o6 :: o7 :: o8 :: o9 :: o10 :: o11 :: o12 :: o13 :: o14 :: o15 :: o16 :: o17 :: o18 :: o19 :: o20 :: o21 :: o22 :: o23 :: o24 :: o25 :: o26 :: o27 :: some (.int i) :: ρ) (AugQ i 28 g2 nx) xx) := rfl
theorem ev_augq28 : Ev (AugQ i 28 g2 nx (.int j) (o0 :: o1 :: o2 :: o3 :: o4 :: o5 :: o6 :: o7 :: o8 :: o9 :: o10 :: o11 :: o12 :: o13 :: o14 :: o15 :: o16 :: o17 :: o18 :: o19 :: o20 :: o21 :: o22 :: o23 :: o24 :: o25 :: o26 :: o27 :: o28 :: ρ)) = Ev (nx (o0 :: o1 :: o2 :: o3 :: o4 :: o5 :: o6 :: o7 :: o8 :: o9 :: o10 :: o11 :: o12 :: o13 :: o14 :: o15 :: o16 :: o17 :: o18 :: o19 :: o20 :: o21 :: o22 :: o23 :: o24 :: o25 :: o26 :: o27 :: some (.int (g2 i j)) :: ρ)) := rfl
theorem ev_setixn28 : Ev (SetIxN (some m) y a l (o0 :: o1 :: o2 :: o3 :: o4 :: o5 :: o6 :: o7 :: o8 :: o9 :: o10 :: o11 :: o12 :: o13 :: o14 :: o15 :: o16 :: o17 :: o18 :: o19 :: o20 :: o21 :: o22 :: o23 :: o24 :: o25 :: o26 :: o27 :: some d :: ρ) (28, []) nx) = Ev (nx (o0 :: o1 :: o2 :: o3 :: o4 :: o5 :: o6 :: o7 :: o8 :: o9 :: o10 :: o11 :: o12 :: o13 :: o14 :: o15 :: o16 :: o17 :: o18 :: o19 :: o20 :: o21 :: o22 :: o23 :: o24 :: o25 :: o26 :: o27 :: some (.lst (some a) (l.set m y)) :: ρ)) := rfl
theorem ev_popq28 : Ev (PopQ Q (o0 :: o1 :: o2 :: o3 :: o4 :: o5 :: o6 :: o7 :: o8 :: o9 :: o10 :: o11 :: o12 :: o13 :: o14 :: o15 :: o16 :: o17 :: o18 :: o19 :: o20 :: o21 :: o22 :: o23 :: o24 :: o25 :: o26 :: o27 :: some d :: ρ) (28, []) (.lst (some a) (l ++ [y]))) = Ev (OwsQ (l ++ [y]) (Q y (o0 :: o1 :: o2 :: o3 :: o4 :: o5 :: o6 :: o7 :: o8 :: o9 :: o10 :: o11 :: o12 :: o13 :: o14 :: o15 :: o16 :: o17 :: o18 :: o19 :: o20 :: o21 :: o22 :: o23 :: o24 :: o25 :: o26 :: o27 :: some (.lst (some a) l) :: ρ))) := propext ⟨fun h => ⟨h.1, by obtain ⟨_, y2, h2, h3⟩ := h; rw [List.getLast?_concat] at h2; cases h2; have h4 : Q y (setP _ _ (.lst (some a) (l ++ [y]).dropLast)) := h3; rw [List.dropLast_concat] at h4; exact h4⟩, fun h => ⟨h.1, y, List.getLast?_concat, by show Q y (setP _ _ (.lst (some a) (l ++ [y]).dropLast)); rw [List.dropLast_concat]; exact h.2⟩⟩
theorem ev_lend28 : Ev (resA (.lend (28, []) a :: as) (o0 :: o1 :: o2 :: o3 :: o4 :: o5 :: o6 :: o7 :: o8 :: o9 :: o10 :: o11 :: o12 :: o13 :: o14 :: o15 :: o16 :: o17 :: o18 :: o19 :: o20 :: o21 :: o22 :: o23 :: o24 :: o25 :: o26 :: o27 :: some d :: ρ) RE) = Ev (AdQ (addr d) a (resA as (o0 :: o1 :: o2 :: o3 :: o4 :: o5 :: o6 :: o7 :: o8 :: o9 :: o10 :: o11 :: o12 :: o13 :: o14 :: o15 :: o16 :: o17 :: o18 :: o19 :: o20 :: o21 :: o22 :: o23 :: o24 :: o25 :: o26 :: o27 :: some (lent a) :: ρ) fun ds ρ' => RE (d :: ds) ρ')) := rfl
theorem ev_giveL28 : Ev (giveA (.lend (28, []) a :: as) (d :: ds) (o0 :: o1 :: o2 :: o3 :: o4 :: o5 :: o6 :: o7 :: o8 :: o9 :: o10 :: o11 :: o12 :: o13 :: o14 :: o15 :: o16 :: o17 :: o18 :: o19 :: o20 :: o21 :: o22 :: o23 :: o24 :: o25 :: o26 :: o27 :: some (lent a) :: ρ) QE) = Ev (giveA as ds (o0 :: o1 :: o2 :: o3 :: o4 :: o5 :: o6 :: o7 :: o8 :: o9 :: o10 :: o11 :: o12 :: o13 :: o14 :: o15 :: o16 :: o17 :: o18 :: o19 :: o20 :: o21 :: o22 :: o23 :: o24 :: o25 :: o26 :: o27 :: some d :: ρ) QE) := propext ⟨fun h => h.2, fun h => ⟨rfl, h⟩⟩
theorem ev_var29 : Ev (pVar 29 (o0 :: o1 :: o2 :: o3 :: o4 :: o5 :: o6 :: o7 :: o8 :: o9 :: o10 :: o11 :: o12 :: o13 :: o14 :: o15 :: o16 :: o17 :: o18 :: o19 :: o20 :: o21 :: o22 :: o23 :: o24 :: o25 :: o26 :: o27 :: o28 :: some d :: ρ) R) = Ev (R d) := rfl
theorem ev_set29 : Ev (SetK 29 oo (o0 :: o1 :: o2 :: o3 :: o4 :: o5 :: o6 :: o7 :: o8 :: o9 :: o10 :: o11 :: o12 :: o13 :: o14 :: o15 :: o16 :: o17 :: o18 :: o19 :: o20 :: o21 :: o22 :: o23 :: o24 :: o25 :: o26 :: o27 :: o28 :: o29 :: ρ) QE) = Ev (QE (o0 :: o1 :: o2 :: o3 :: o4 :: o5 :: o6 :: o7 :: o8 :: o9 :: o10 :: o11 :: o12 :: o13 :: o14 :: o15 :: o16 :: o17 :: o18 :: o19 :: o20 :: o21 :: o22 :: o23 :: o24 :: o25 :: o26 :: o27 :: o28 :: oo :: ρ)) := rfl
theorem ev_mov29 : Ev (eMov 29 (o0 :: o1 :: o2 :: o3 :: o4 :: o5 :: o6 :: o7 :: o8 :: o9 :: o10 :: o11 :: o12 :: o13 :: o14 :: o15 :: o16 :: o17 :: o18 :: o19 :: o20 :: o21 :: o22 :: o23 :: o24 :: o25 :: o26 :: o27 :: o28 :: some d :: ρ) Q Qx) = Ev (Q d (o0 :: o1 :: o2 :: o3 :: o4 :: o5 :: o6 :: o7 :: o8 :: o9 :: o10 :: o11 :: o12 :: o13 :: o14 :: o15 :: o16 :: o17 :: o18 :: o19 :: o20 :: o21 :: o22 :: o23 :: o24 :: o25 :: o26 :: o27 :: o28 :: none :: ρ)) := rfl
theorem ev_frz29 : Ev (eFrz 29 (o0 :: o1 :: o2 :: o3 :: o4 :: o5 :: o6 :: o7 :: o8 :: o9 :: o10 :: o11 :: o12 :: o13 :: o14 :: o15 :: o16 :: o17 :: o18 :: o19 :: o20 :: o21 :: o22 :: o23 :: o24 :: o25 :: o26 :: o27 :: o28 :: some (.lst ma l) :: ρ) Q Qx) = Ev (OwsQ l (Q (.lst none l) (o0 :: o1 :: o2 :: o3 :: o4 :: o5 :: o6 :: o7 :: o8 :: o9 :: o10 :: o11 :: o12 :: o13 :: o14 :: o15 :: o16 :: o17 :: o18 :: o19 :: o20 :: o21 :: o22 :: o23 :: o24 :: o25 :: o26 :: o27 :: o28 :: some (.lst none l) :: ρ))) := rfl
theorem ev_frzT29 : Ev (eFrz 29 (o0 :: o1 :: o2 :: o3 :: o4 :: o5 :: o6 :: o7 :: o8 :: o9 :: o10 :: o11 :: o12 :: o13 :: o14 :: o15 :: o16 :: o17 :: o18 :: o19 :: o20 :: o21 :: o22 :: o23 :: o24 :: o25 :: o26 :: o27 :: o28 :: some (.tup l) :: ρ) Q Qx) = Ev (OwsQ l (Q (.tup l) (o0 :: o1 :: o2 :: o3 :: o4 :: o5 :: o6 :: o7 :: o8 :: o9 :: o10 :: o11 :: o12 :: o13 :: o14 :: o15 :: o16 :: o17 :: o18 :: o19 :: o20 :: o21 :: o22 :: o23 :: o24 :: o25 :: o26 :: o27 :: o28 :: some (.tup l) :: ρ))) := rfl
theorem ev_lv29 : ∀ {f : Path → D → Prop}, Ev (lVar 29 (o0 :: o1 :: o2 :: o3 :: o4 :: o5 :: o6 :: o7 :: o8 :: o9 :: o10 :: o11 :: o12 :: o13 :: o14 :: o15 :: o16 :: o17 :: o18 :: o19 :: o20 :: o21 :: o22 :: o23 :: o24 :: o25 :: o26 :: o27 :: o28 :: some d :: ρ) f) = Ev (f (29, []) d) := rfl
theorem ev_app2_29 : Ev (AppQ2 (29, []) a Q y (o0 :: o1 :: o2 :: o3 :: o4 :: o5 :: o6 :: o7 :: o8 :: o9 :: o10 :: o11 :: o12 :: o13 :: o14 :: o15 :: o16 :: o17 :: o18 :: o19 :: o20 :: o21 :: o22 :: o23 :: o24 :: o25 :: o26 :: o27 :: o28 :: some (.lst (some a) l) :: ρ)) = (l.length < sizeLine ∧ Ev (Q .non (o0 :: o1 :: o2 :: o3 :: o4 :: o5 :: o6 :: o7 :: o8 :: o9 :: o10 :: o11 :: o12 :: o13 :: o14 :: o15 :: o16 :: o17 :: o18 :: o19 :: o20 :: o21 :: o22 :: o23 :: o24 :: o25 :: o26 :: o27 :: o28 :: some (.lst (some a) (l ++ [y])) :: ρ))) := propext ⟨fun h => h.2, fun h => ⟨rfl, h⟩⟩
theorem ev_aug29 : Ev (sAug 29 g2 we ⟨nx, rt, bk, ct, xx⟩ (o0 :: o1 :: o2 :: o3 :: o4 :: o5 :: o6 :: o7 :: o8 :: o9 :: o10 :: o11 :: o12 :: o13 :: o14 :: o15 :: o16 :: o17 :: o18 :: o19 :: o20 :: o21 :: o22 :: o23 :: o24 :: o25 :: o26 :: o27 :: o28 :: some (.int i) :: ρ)) = Ev (we (o0 :: o1 :: o2 :: o3 :: o4 :: o5 :: o6 :: o7 :: o8 :: o9 :: o10 :: o11 :: o12 :: o13 :: o14 :: o15 :: o16 :: o17 :: o18 :: o19 :: o20 :: o21 :: o22 :: o23 :: o24 :: o25 :: o26 :: o27 :: o28 :: some (.int i) :: ρ) (AugQ i 29 g2 nx) xx) := rfl
theorem ev_augq29 : Ev (AugQ i 29 g2 nx (.int j) (o0 :: o1 :: o2 :: o3 :: o4 :: o5 :: o6 :: o7 :: o8 :: o9 :: o10 :: o11 :: o12 :: o13 :: o14 :: o15 :: o16 :: o17 :: o18 :: o19 :: o20 :: o21 :: o22 :: o23 :: o24 :: o25 :: o26 :: o27 :: o28 :: o29 :: ρ)) = Ev (nx (o0 :: o1 :: o2 :: o3 :: o4 :: o5 :: o6 :: o7 :: o8 :: o9 :: o10 :: o11 :: o12 :: o13 :: o14 :: o15 :: o16 :: o17 :: o18 :: o19 :: o20 :: o21 :: o22 :: o23 :: o24 :: o25 :: o26 :: o27 :: o28 :: some (.int (g2 i j)) :: ρ)) := rfl
theorem ev_setixn29 : Ev (SetIxN (some m) y a l (o0 :: o1 :: o2 :: o3 :: o4 :: o5 :: o6 :: o7 :: o8 :: o9 :: o10 :: o11 :: o12 :: o13 :: o14 :: o15 :: o16 :: o17 :: o18 :: o19 :: o20 :: o21 :: o22 :: o23 :: o24 :: o25 :: o26 :: o27 :: o28 :: some d :: ρ) (29, []) nx) = Ev (nx (o0 :: o1 :: o2 :: o3 :: o4 :: o5 :: o6 :: o7 :: o8 :: o9 :: o10 :: o11 :: o12 :: o13 :: o14 :: o15 :: o16 :: o17 :: o18 :: o19 :: o20 :: o21 :: o22 :: o23 :: o24 :: o25 :: o26 :: o27 :: o28 :: some (.lst (some a) (l.set m y)) :: ρ)) := rfl
theorem ev_popq29 : Ev (PopQ Q (o0 :: o1 :: o2 :: o3 :: o4 :: o5 :: o6 :: o7 :: o8 :: o9 :: o10 :: o11 :: o12 :: o13 :: o14 :: o15 :: o16 :: o17 :: o18 :: o19 :: o20 :: o21 :: o22 :: o23 :: o24 :: o25 :: o26 :: o27 :: o28 :: some d :: ρ) (29, []) (.lst (some a) (l ++ [y]))) = Ev (OwsQ (l ++ [y]) (Q y (o0 :: o1 :: o2 :: o3 :: o4 :: o5 :: o6 :: o7 :: o8 :: o9 :: o10 :: o11 :: o12 :: o13 :: o14 :: o15 :: o16 :: o17 :: o18 :: o19 :: o20 :: o21 :: o22 :: o23 :: o24 :: o25 :: o26 :: o27 :: o28 :: some (.lst (some a) l) :: ρ))) := propext ⟨fun h => ⟨h.1, by obtain ⟨_, y2, h2, h3⟩ := h; rw [List.getLast?_concat] at h2; cases h2; have h4 : Q y (setP _ _ (.lst (some a) (l ++ [y]).dropLast)) := h3; rw [List.dropLast_concat] at h4; exact h4⟩, fun h => ⟨h.1, y, List.getLast?_concat, by show Q y (setP _ _ (.lst (some a) (l ++ [y]).dropLast)); rw [List.dropLast_concat]; exact h.2⟩⟩
theorem ev_lend29 : Ev (resA (.lend (29, []) a :: as) (o0 :: o1 :: o2 :: o3 :: o4 :: o5 :: o6 :: o7 :: o8 :: o9 :: o10 :: o11 :: o12 :: o13 :: o14 :: o15 :: o16 :: o17 :: o18 :: o19 :: o20 :: o21 :: o22 :: o23 :: o24 :: o25 :: o26 :: o27 :: o28 :: some d :: ρ) RE) = Ev (AdQ (addr d) a (resA as (o0 :: o1 :: o2 :: o3 :: o4 :: o5 :: o6 :: o7 :: o8 :: o9 :: o10 :: o11 :: o12 :: o13 :: o14 :: o15 :: o16 :: o17 :: o18 :: o19 :: o20 :: o21 :: o22 :: o23 :: o24 :: o25 :: o26 :: o27 :: o28 :: some (lent a) :: ρ) fun ds ρ' => RE (d :: ds) ρ')) := rfl
theorem ev_giveL29 : Ev (giveA (.lend (29, []) a :: as) (d :: ds) (o0 :: o1 :: o2 :: o3 :: o4 :: o5 :: o6 :: o7 :: o8 :: o9 :: o10 :: o11 :: o12 :: o13 :: o14 :: o15 :: o16 :: o17 :: o18 :: o19 :: o20 :: o21 :: o22 :: o23 :: o24 :: o25 :: o26 :: o27 :: o28 :: some (lent a) :: ρ) QE) = Ev (giveA as ds (o0 :: o1 :: o2 :: o3 :: o4 :: o5 :: o6 :: o7 :: o8 :: o9 :: o10 :: o11 :: o12 :: o13 :: o14 :: o15 :: o16 :: o17 :: o18 :: o19 :: o20 :: o21 :: o22 :: o23 :: o24 :: o25 :: o26 :: o27 :: o28 :: some d :: ρ) QE) := propext ⟨fun h => h.2, fun h => ⟨rfl, h⟩⟩
theorem ev_enS0 : ∀ {q : Sq l}, Ev (iEnumS (ePure (pVar 0)) (some q.d :: ρ) QI Qx) = Ev (OwsQ l (QI (enumD l) (some q.d :: ρ))) := by intro q; exact enumS_gen fun R => rfl
theorem ev_enT0 : Ev (iEnumS (ePure (pVar 0)) (some (.tup l) :: ρ) QI Qx) = Ev (OwsQ l (QI (enumD l) (some (.tup l) :: ρ))) := enumS_gen (q := ⟨_, .inl rfl⟩) fun R => rfl
theorem ev_enL0 : Ev (iEnumS (ePure (pVar 0)) (some (.lst none l) :: ρ) QI Qx) = Ev (OwsQ l (QI (enumD l) (some (.lst none l) :: ρ))) := enumS_gen (q := ⟨_, .inr rfl⟩) fun R => rfl
theorem ev_enS1 : ∀ {q : Sq l}, Ev (iEnumS (ePure (pVar 1)) (o0 :: some q.d :: ρ) QI Qx) = Ev (OwsQ l (QI (enumD l) (o0 :: some q.d :: ρ))) := by intro q; exact enumS_gen fun R => rfl
theorem ev_enT1 : Ev (iEnumS (ePure (pVar 1)) (o0 :: some (.tup l) :: ρ) QI Qx) = Ev (OwsQ l (QI (enumD l) (o0 :: some (.tup l) :: ρ))) := enumS_gen (q := ⟨_, .inl rfl⟩) fun R => rfl
theorem ev_enL1 : Ev (iEnumS (ePure (pVar 1)) (o0 :: some (.lst none l) :: ρ) QI Qx) = Ev (OwsQ l (QI (enumD l) (o0 :: some (.lst none l) :: ρ))) := enumS_gen (q := ⟨_, .inr rfl⟩) fun R => rfl
theorem ev_enS2 : ∀ {q : Sq l}, Ev (iEnumS (ePure (pVar 2)) (o0 :: o1 :: some q.d :: ρ) QI Qx) = Ev (OwsQ l (QI (enumD l) (o0 :: o1 :: some q.d :: ρ))) := by intro q; exact enumS_gen fun R => rfl
theorem ev_enT2 : Ev (iEnumS (ePure (pVar 2)) (o0 :: o1 :: some (.tup l) :: ρ) QI Qx) = Ev (OwsQ l (QI (enumD l) (o0 :: o1 :: some (.tup l) :: ρ))) := enumS_gen (q := ⟨_, .inl rfl⟩) fun R => rfl
theorem ev_enL2 : Ev (iEnumS (ePure (pVar 2)) (o0 :: o1 :: some (.lst none l) :: ρ) QI Qx) = Ev (OwsQ l (QI (enumD l) (o0 :: o1 :: some (.lst none l) :: ρ))) := enumS_gen (q := ⟨_, .inr rfl⟩) fun R => rfl
theorem ev_enS3 : ∀ {q : Sq l}, Ev (iEnumS (ePure (pVar 3)) (o0 :: o1 :: o2 :: some q.d :: ρ) QI Qx) = Ev (OwsQ l (QI (enumD l) (o0 :: o1 :: o2 :: some q.d :: ρ))) := by intro q; exact enumS_gen fun R => rfl
theorem ev_enT3 : Ev (iEnumS (ePure (pVar 3)) (o0 :: o1 :: o2 :: some (.tup l) :: ρ) QI Qx) = Ev (OwsQ l (QI (enumD l) (o0 :: o1 :: o2 :: some (.tup l) :: ρ))) := enumS_gen (q := ⟨_, .inl rfl⟩) fun R => rfl
theorem ev_enL3 : Ev (iEnumS (ePure (pVar 3)) (o0 :: o1 :: o2 :: some (.lst none l) :: ρ) QI Qx) = Ev (OwsQ l (QI (enumD l) (o0 :: o1 :: o2 :: some (.lst none l) :: ρ))) := enumS_gen (q := ⟨_, .inr rfl⟩) fun R => rfl
theorem ev_enS4 : ∀ {q : Sq l}, Ev (iEnumS (ePure (pVar 4)) (o0 :: o1 :: o2 :: o3 :: some q.d :: ρ) QI Qx) = Ev (OwsQ l (QI (enumD l) (o0 :: o1 :: o2 :: o3 :: some q.d :: ρ))) := by intro q; exact enumS_gen fun R => rfl
theorem ev_enT4 : Ev (iEnumS (ePure (pVar 4)) (o0 :: o1 :: o2 :: o3 :: some (.tup l) :: ρ) QI Qx) = Ev (OwsQ l (QI (enumD l) (o0 :: o1 :: o2 :: o3 :: some (.tup l) :: ρ))) := enumS_gen (q := ⟨_, .inl rfl⟩) fun R => rfl
theorem ev_enL4 : Ev (iEnumS (ePure (pVar 4)) (o0 :: o1 :: o2 :: o3 :: some (.lst none l) :: ρ) QI Qx) = Ev (OwsQ l (QI (enumD l) (o0 :: o1 :: o2 :: o3 :: some (.lst none l) :: ρ))) := enumS_gen (q := ⟨_, .inr rfl⟩) fun R => rfl
theorem ev_enS5 : ∀ {q : Sq l}, Ev (iEnumS (ePure (pVar 5)) (o0 :: o1 :: o2 :: o3 :: o4 :: some q.d :: ρ) QI Qx) = Ev (OwsQ l (QI (enumD l) (o0 :: o1 :: o2 :: o3 :: o4 :: some q.d :: ρ))) := by intro q; exact enumS_gen fun R => rfl
theorem ev_enT5 : Ev (iEnumS (ePure (pVar 5)) (o0 :: o1 :: o2 :: o3 :: o4 :: some (.tup l) :: ρ) QI Qx) = Ev (OwsQ l (QI (enumD l) (o0 :: o1 :: o2 :: o3 :: o4 :: some (.tup l) :: ρ))) := enumS_gen (q := ⟨_, .inl rfl⟩) fun R => rfl
theorem ev_enL5 : Ev (iEnumS (ePure (pVar 5)) (o0 :: o1 :: o2 :: o3 :: o4 :: some (.lst none l) :: ρ) QI Qx) = Ev (OwsQ l (QI (enumD l) (o0 :: o1 :: o2 :: o3 :: o4 :: some (.lst none l) :: ρ))) := enumS_gen (q := ⟨_, .inr rfl⟩) fun R => rfl
theorem ev_enS6 : ∀ {q : Sq l}, Ev (iEnumS (ePure (pVar 6)) (o0 :: o1 :: o2 :: o3 :: o4 :: o5 :: some q.d :: ρ) QI Qx) = Ev (OwsQ l (QI (enumD l) (o0 :: o1 :: o2 :: o3 :: o4 :: o5 :: some q.d :: ρ))) := by intro q; exact enumS_gen fun R => rfl
theorem ev_enT6 : Ev (iEnumS (ePure (pVar 6)) (o0 :: o1 :: o2 :: o3 :: o4 :: o5 :: some (.tup l) :: ρ) QI Qx) = Ev (OwsQ l (QI (enumD l) (o0 :: o1 :: o2 :: o3 :: o4 :: o5 :: some (.tup l) :: ρ))) := enumS_gen (q := ⟨_, .inl rfl⟩) fun R => rfl
theorem ev_enL6 : Ev (iEnumS (ePure (pVar 6)) (o0 :: o1 :: o2 :: o3 :: o4 :: o5 :: some (.lst none l) :: ρ) QI Qx) = Ev (OwsQ l (QI (enumD l) (o0 :: o1 :: o2 :: o3 :: o4 :: o5 :: some (.lst none l) :: ρ))) := enumS_gen (q := ⟨_, .inr rfl⟩) fun R => rfl
theorem ev_enS7 : ∀ {q : Sq l}, Ev (iEnumS (ePure (pVar 7)) (o0 :: o1 :: o2 :: o3 :: o4 :: o5 :: o6 :: some q.d :: ρ) QI Qx) = Ev (OwsQ l (QI (enumD l) (o0 :: o1 :: o2 :: o3 :: o4 :: o5 :: o6 :: some q.d :: ρ))) := by intro q; exact enumS_gen fun R => rfl
theorem ev_enT7 : Ev (iEnumS (ePure (pVar 7)) (o0 :: o1 :: o2 :: o3 :: o4 :: o5 :: o6 :: some (.tup l) :: ρ) QI Qx) = Ev (OwsQ l (QI (enumD l) (o0 :: o1 :: o2 :: o3 :: o4 :: o5 :: o6 :: some (.tup l) :: ρ))) := enumS_gen (q := ⟨_, .inl rfl⟩) fun R => rfl
theorem ev_enL7 : Ev (iEnumS (ePure (pVar 7)) (o0 :: o1 :: o2 :: o3 :: o4 :: o5 :: o6 :: some (.lst none l) :: ρ) QI Qx) = Ev (OwsQ l (QI (enumD l) (o0 :: o1 :: o2 :: o3 :: o4 :: o5 :: o6 :: some (.lst none l) :: ρ))) := enumS_gen (q := ⟨_, .inr rfl⟩) fun R => rfl
theorem ev_enS8 : ∀ {q : Sq l}, Ev (iEnumS (ePure (pVar 8)) (o0 :: o1 :: o2 :: o3 :: o4 :: o5 :: o6 :: o7 :: some q.d :: ρ) QI Qx) = Ev (OwsQ l (QI (enumD l) (o0 :: o1 :: o2 :: o3 :: o4 :: o5 :: o6 :: o7 :: some q.d :: ρ))) := by intro q; exact enumS_gen fun R => rfl
theorem ev_enT8 : Ev (iEnumS (ePure (pVar 8)) (o0 :: o1 :: o2 :: o3 :: o4 :: o5 :: o6 :: o7 :: some (.tup l) :: ρ) QI Qx) = Ev (OwsQ l (QI (enumD l) (o0 :: o1 :: o2 :: o3 :: o4 :: o5 :: o6 :: o7 :: some (.tup l) :: ρ))) := enumS_gen (q := ⟨_, .inl rfl⟩) fun R => rfl
theorem ev_enL8 : Ev (iEnumS (ePure (pVar 8)) (o0 :: o1 :: o2 :: o3 :: o4 :: o5 :: o6 :: o7 :: some (.lst none l) :: ρ) QI Qx) = Ev (OwsQ l (QI (enumD l) (o0 :: o1 :: o2 :: o3 :: o4 :: o5 :: o6 :: o7 :: some (.lst none l) :: ρ))) := enumS_gen (q := ⟨_, .inr rfl⟩) fun R => rfl
theorem ev_enS9 : ∀ {q : Sq l}, Ev (iEnumS (ePure (pVar 9)) (o0 :: o1 :: o2 :: o3 :: o4 :: o5 :: o6 :: o7 :: o8 :: some q.d :: ρ) QI Qx) = Ev (OwsQ l (QI (enumD l) (o0 :: o1 :: o2 :: o3 :: o4 :: o5 :: o6 :: o7 :: o8 :: some q.d :: ρ))) := by intro q; exact enumS_gen fun R => rfl
theorem ev_enT9 : Ev (iEnumS (ePure (pVar 9)) (o0 :: o1 :: o2 :: o3 :: o4 :: o5 :: o6 :: o7 :: o8 :: some (.tup l) :: ρ) QI Qx) = Ev (OwsQ l (QI (enumD l) (o0 :: o1 :: o2 :: o3 :: o4 :: o5 :: o6 :: o7 :: o8 :: some (.tup l) :: ρ))) := enumS_gen (q := ⟨_, .inl rfl⟩) fun R => rfl
theorem ev_enL9 : Ev (iEnumS (ePure (pVar 9)) (o0 :: o1 :: o2 :: o3 :: o4 :: o5 :: o6 :: o7 :: o8 :: some (.lst none l) :: ρ) QI Qx) = Ev (OwsQ l (QI (enumD l) (o0 :: o1 :: o2 :: o3 :: o4 :: o5 :: o6 :: o7 :: o8 :: some (.lst none l) :: ρ))) := enumS_gen (q := ⟨_, .inr rfl⟩) fun R => rfl
theorem ev_enS10 : ∀ {q : Sq l}, Ev (iEnumS (ePure (pVar 10)) (o0 :: o1 :: o2 :: o3 :: o4 :: o5 :: o6 :: o7 :: o8 :: o9 :: some q.d :: ρ) QI Qx) = Ev (OwsQ l (QI (enumD l) (o0 :: o1 :: o2 :: o3 :: o4 :: o5 :: o6 :: o7 :: o8 :: o9 :: some q.d :: ρ))) := by intro q; exact enumS_gen fun R => rfl
theorem ev_enT10 : Ev (iEnumS (ePure (pVar 10)) (o0 :: o1 :: o2 :: o3 :: o4 :: o5 :: o6 :: o7 :: o8 :: o9 :: some (.tup l) :: ρ) QI Qx) = Ev (OwsQ l (QI (enumD l) (o0 :: o1 :: o2 :: o3 :: o4 :: o5 :: o6 :: o7 :: o8 :: o9 :: some (.tup l) :: ρ))) := enumS_gen (q := ⟨_, .inl rfl⟩) fun R => rfl
theorem ev_enL10 : Ev (iEnumS (ePure (pVar 10)) (o0 :: o1 :: o2 :: o3 :: o4 :: o5 :: o6 :: o7 :: o8 :: o9 :: some (.lst none l) :: ρ) QI Qx) = Ev (OwsQ l (QI (enumD l) (o0 :: o1 :: o2 :: o3 :: o4 :: o5 :: o6 :: o7 :: o8 :: o9 :: some (.lst none l) :: ρ))) := enumS_gen (q := ⟨_, .inr rfl⟩) fun R => rfl
theorem ev_enS11 : ∀ {q : Sq l}, Ev (iEnumS (ePure (pVar 11)) (o0 :: o1 :: o2 :: o3 :: o4 :: o5 :: o6 :: o7 :: o8 :: o9 :: o10 :: some q.d :: ρ) QI Qx) = Ev (OwsQ l (QI (enumD l) (o0 :: o1 :: o2 :: o3 :: o4 :: o5 :: o6 :: o7 :: o8 :: o9 :: o10 :: some q.d :: ρ))) := by intro q; exact enumS_gen fun R => rfl
theorem ev_enT11 : Ev (iEnumS (ePure (pVar 11)) (o0 :: o1 :: o2 :: o3 :: o4 :: o5 :: o6 :: o7 :: o8 :: o9 :: o10 :: some (.tup l) :: ρ) QI Qx) = Ev (OwsQ l (QI (enumD l) (o0 :: o1 :: o2 :: o3 :: o4 :: o5 :: o6 :: o7 :: o8 :: o9 :: o10 :: some (.tup l) :: ρ))) := enumS_gen (q := ⟨_, .inl rfl⟩) fun R => rfl
theorem ev_enL11 : Ev (iEnumS (ePure (pVar 11)) (o0 :: o1 :: o2 :: o3 :: o4 :: o5 :: o6 :: o7 :: o8 :: o9 :: o10 :: some (.lst none l) :: ρ) QI Qx) = Ev (OwsQ l (QI (enumD l) (o0 :: o1 :: o2 :: o3 :: o4 :: o5 :: o6 :: o7 :: o8 :: o9 :: o10 :: some (.lst none l) :: ρ))) := enumS_gen (q := ⟨_, .inr rfl⟩) fun R => rfl
theorem ev_enS12 : ∀ {q : Sq l}, Ev (iEnumS (ePure (pVar 12)) (o0 :: o1 :: o2 :: o3 :: o4 :: o5 :: o6 :: o7 :: o8 :: o9 :: o10 :: o11 :: some q.d :: ρ) QI Qx) = Ev (OwsQ l (QI (enumD l) (o0 :: o1 :: o2 :: o3 :: o4 :: o5 :: o6 :: o7 :: o8 :: o9 :: o10 :: o11 :: some q.d :: ρ))) := by intro q; exact enumS_gen fun R => rfl
theorem ev_enT12 : Ev (iEnumS (ePure (pVar 12)) (o0 :: o1 :: o2 :: o3 :: o4 :: o5 :: o6 :: o7 :: o8 :: o9 :: o10 :: o11 :: some (.tup l) :: ρ) QI Qx) = Ev (OwsQ l (QI (enumD l) (o0 :: o1 :: o2 :: o3 :: o4 :: o5 :: o6 :: o7 :: o8 :: o9 :: o10 :: o11 :: some (.tup l) :: ρ))) := enumS_gen (q := ⟨_, .inl rfl⟩) fun R => rfl
theorem ev_enL12 : Ev (iEnumS (ePure (pVar 12)) (o0 :: o1 :: o2 :: o3 :: o4 :: o5 :: o6 :: o7 :: o8 :: o9 :: o10 :: o11 :: some (.lst none l) :: ρ) QI Qx) = Ev (OwsQ l (QI (enumD l) (o0 :: o1 :: o2 :: o3 :: o4 :: o5 :: o6 :: o7 :: o8 :: o9 :: o10 :: o11 :: some (.lst none l) :: ρ))) := enumS_gen (q := ⟨_, .inr rfl⟩) fun R => rfl
theorem ev_enS13 : ∀ {q : Sq l}, Ev (iEnumS (ePure (pVar 13)) (o0 :: o1 :: o2 :: o3 :: o4 :: o5 :: o6 :: o7 :: o8 :: o9 :: o10 :: o11 :: o12 :: some q.d :: ρ) QI Qx) = Ev (OwsQ l (QI (enumD l) (o0 :: o1 :: o2 :: o3 :: o4 :: o5 :: o6 :: o7 :: o8 :: o9 :: o10 :: o11 :: o12 :: some q.d :: ρ))) := by intro q; exact enumS_gen fun R => rfl
theorem ev_enT13 : Ev (iEnumS (ePure (pVar 13)) (o0 :: o1 :: o2 :: o3 :: o4 :: o5 :: o6 :: o7 :: o8 :: o9 :: o10 :: o11 :: o12 :: some (.tup l) :: ρ) QI Qx) = Ev (OwsQ l (QI (enumD l) (o0 :: o1 :: o2 :: o3 :: o4 :: o5 :: o6 :: o7 :: o8 :: o9 :: o10 :: o11 :: o12 :: some (.tup l) :: ρ))) := enumS_gen (q := ⟨_, .inl rfl⟩) fun R => rfl
theorem ev_enL13 : Ev (iEnumS (ePure (pVar 13)) (o0 :: o1 :: o2 :: o3 :: o4 :: o5 :: o6 :: o7 :: o8 :: o9 :: o10 :: o11 :: o12 :: some (.lst none l) :: ρ) QI Qx) = Ev (OwsQ l (QI (enumD l) (o0 :: o1 :: o2 :: o3 :: o4 :: o5 :: o6 :: o7 :: o8 :: o9 :: o10 :: o11 :: o12 :: some (.lst none l) :: ρ))) := enumS_gen (q := ⟨_, .inr rfl⟩) fun R => rfl
theorem ev_enS14 : ∀ {q : Sq l}, Ev (iEnumS (ePure (pVar 14)) (o0 :: o1 :: o2 :: o3 :: o4 :: o5 :: o6 :: o7 :: o8 :: o9 :: o10 :: o11 :: o12 :: o13 :: some q.d :: ρ) QI Qx) = Ev (OwsQ l (QI (enumD l) (o0 :: o1 :: o2 :: o3 :: o4 :: o5 :: o6 :: o7 :: o8 :: o9 :: o10 :: o11 :: o12 :: o13 :: some q.d :: ρ))) := by intro q; exact enumS_gen fun R => rfl
theorem ev_enT14 : Ev (iEnumS (ePure (pVar 14)) (o0 :: o1 :: o2 :: o3 :: o4 :: o5 :: o6 :: o7 :: o8 :: o9 :: o10 :: o11 :: o12 :: o13 :: some (.tup l) :: ρ) QI Qx) = Ev (OwsQ l (QI (enumD l) (o0 :: o1 :: o2 :: o3 :: o4 :: o5 :: o6 :: o7 :: o8 :: o9 :: o10 :: o11 :: o12 :: o13 :: some (.tup l) :: ρ))) := enumS_gen (q := ⟨_, .inl rfl⟩) fun R => rfl
theorem ev_enL14 : Ev (iEnumS (ePure (pVar 14)) (o0 :: o1 :: o2 :: o3 :: o4 :: o5 :: o6 :: o7 :: o8 :: o9 :: o10 :: o11 :: o12 :: o13 :: some (.lst none l) :: ρ) QI Qx) = Ev (OwsQ l (QI (enumD l) (o0 :: o1 :: o2 :: o3 :: o4 :: o5 :: o6 :: o7 :: o8 :: o9 :: o10 :: o11 :: o12 :: o13 :: some (.lst none l) :: ρ))) := enumS_gen (q := ⟨_, .inr rfl⟩) fun R => rfl
theorem ev_enS15 : ∀ {q : Sq l}, Ev (iEnumS (ePure (pVar 15)) (o0 :: o1 :: o2 :: o3 :: o4 :: o5 :: o6 :: o7 :: o8 :: o9 :: o10 :: o11 :: o12 :: o13 :: o14 :: some q.d :: ρ) QI Qx) = Ev (OwsQ l (QI (enumD l) (o0 :: o1 :: o2 :: o3 :: o4 :: o5 :: o6 :: o7 :: o8 :: o9 :: o10 :: o11 :: o12 :: o13 :: o14 :: some q.d :: ρ))) := by intro q; exact enumS_gen fun R => rfl
theorem ev_enT15 : Ev (iEnumS (ePure (pVar 15)) (o0 :: o1 :: o2 :: o3 :: o4 :: o5 :: o6 :: o7 :: o8 :: o9 :: o10 :: o11 :: o12 :: o13 :: o14 :: some (.tup l) :: ρ) QI Qx) = Ev (OwsQ l (QI (enumD l) (o0 :: o1 :: o2 :: o3 :: o4 :: o5 :: o6 :: o7 :: o8 :: o9 :: o10 :: o11 :: o12 :: o13 :: o14 :: some (.tup l) :: ρ))) := enumS_gen (q := ⟨_, .inl rfl⟩) fun R => rfl
theorem ev_enL15 : Ev (iEnumS (ePure (pVar 15)) (o0 :: o1 :: o2 :: o3 :: o4 :: o5 :: o6 :: o7 :: o8 :: o9 :: o10 :: o11 :: o12 :: o13 :: o14 :: some (.lst none l) :: ρ) QI Qx) = Ev (OwsQ l (QI (enumD l) (o0 :: o1 :: o2 :: o3 :: o4 :: o5 :: o6 :: o7 :: o8 :: o9 :: o10 :: o11 :: o12 :: o13 :: o14 :: some (.lst none l) :: ρ))) := enumS_gen (q := ⟨_, .inr rfl⟩) fun R => rfl
theorem ev_enS16 : ∀ {q : Sq l}, Ev (iEnumS (ePure (pVar 16)) (o0 :: o1 :: o2 :: o3 :: o4 :: o5 :: o6 :: o7 :: o8 :: o9 :: o10 :: o11 :: o12 :: o13 :: o14 :: o15 :: some q.d :: ρ) QI Qx) = Ev (OwsQ l (QI (enumD l) (o0 :: o1 :: o2 :: o3 :: o4 :: o5 :: o6 :: o7 :: o8 :: o9 :: o10 :: o11 :: o12 :: o13 :: o14 :: o15 :: some q.d :: ρ))) := by intro q; exact enumS_gen fun R => rfl
theorem ev_enT16 : Ev (iEnumS (ePure (pVar 16)) (o0 :: o1 :: o2 :: o3 :: o4 :: o5 :: o6 :: o7 :: o8 :: o9 :: o10 :: o11 :: o12 :: o13 :: o14 :: o15 :: some (.tup l) :: ρ) QI Qx) = Ev (OwsQ l (QI (enumD l) (o0 :: o1 :: o2 :: o3 :: o4 :: o5 :: o6 :: o7 :: o8 :: o9 :: o10 :: o11 :: o12 :: o13 :: o14 :: o15 :: some (.tup l) :: ρ))) := enumS_gen (q := ⟨_, .inl rfl⟩) fun R => rfl
theorem ev_enL16 : Ev (iEnumS (ePure (pVar 16)) (o0 :: o1 :: o2 :: o3 :: o4 :: o5 :: o6 :: o7 :: o8 :: o9 :: o10 :: o11 :: o12 :: o13 :: o14 :: o15 :: some (.lst none l) :: ρ) QI Qx) = Ev (OwsQ l (QI (enumD l) (o0 :: o1 :: o2 :: o3 :: o4 :: o5 :: o6 :: o7 :: o8 :: o9 :: o10 :: o11 :: o12 :: o13 :: o14 :: o15 :: some (.lst none l) :: ρ))) := enumS_gen (q := ⟨_, .inr rfl⟩) fun R => rfl
theorem ev_enS17 : ∀ {q : Sq l}, Ev (iEnumS (ePure (pVar 17)) (o0 :: o1 :: o2 :: o3 :: o4 :: o5 :: o6 :: o7 :: o8 :: o9 :: o10 :: o11 :: o12 :: o13 :: o14 :: o15 :: o16 :: some q.d :: ρ) QI Qx) = Ev (OwsQ l (QI (enumD l) (o0 :: o1 :: o2 :: o3 :: o4 :: o5 :: o6 :: o7 :: o8 :: o9 :: o10 :: o11 :: o12 :: o13 :: o14 :: o15 :: o16 :: some q.d :: ρ))) := by intro q; exact enumS_gen fun R => rfl
theorem ev_enT17 : Ev (iEnumS (ePure (pVar 17)) (o0 :: o1 :: o2 :: o3 :: o4 :: o5 :: o6 :: o7 :: o8 :: o9 :: o10 :: o11 :: o12 :: o13 :: o14 :: o15 :: o16 :: some (.tup l) :: ρ) QI Qx) = Ev (OwsQ l (QI (enumD l) (o0 :: o1 :: o2 :: o3 :: o4 :: o5 :: o6 :: o7 :: o8 :: o9 :: o10 :: o11 :: o12 :: o13 :: o14 :: o15 :: o16 :: some (.tup l) :: ρ))) := enumS_gen (q := ⟨_, .inl rfl⟩) fun R => rfl
theorem ev_enL17 : Ev (iEnumS (ePure (pVar 17)) (o0 :: o1 :: o2 :: o3 :: o4 :: o5 :: o6 :: o7 :: o8 :: o9 :: o10 :: o11 :: o12 :: o13 :: o14 :: o15 :: o16 :: some (.lst none l) :: ρ) QI Qx) = Ev (OwsQ l (QI (enumD l) (o0 :: o1 :: o2 :: o3 :: o4 :: o5 :: o6 :: o7 :: o8 :: o9 :: o10 :: o11 :: o12 :: o13 :: o14 :: o15 :: o16 :: some (.lst none l) :: ρ))) := enumS_gen (q := ⟨_, .inr rfl⟩) fun R => rfl
theorem ev_enS18 : ∀ {q : Sq l}, Ev (iEnumS (ePure (pVar 18)) (o0 :: o1 :: o2 :: o3 :: o4 :: o5 :: o6 :: o7 :: o8 :: o9 :: o10 :: o11 :: o12 :: o13 :: o14 :: o15 :: o16 :: o17 :: some q.d :: ρ) QI Qx) = Ev (OwsQ l (QI (enumD l) (o0 :: o1 :: o2 :: o3 :: o4 :: o5 :: o6 :: o7 :: o8 :: o9 :: o10 :: o11 :: o12 :: o13 :: o14 :: o15 :: o16 :: o17 :: some q.d :: ρ))) := by intro q; exact enumS_gen fun R => rfl
theorem ev_enT18 : Ev (iEnumS (ePure (pVar 18)) (o0 :: o1 :: o2 :: o3 :: o4 :: o5 :: o6 :: o7 :: o8 :: o9 :: o10 :: o11 :: o12 :: o13 :: o14 :: o15 :: o16 :: o17 :: some (.tup l) :: ρ) QI Qx) = Ev (OwsQ l (QI (enumD l) (o0 :: o1 :: o2 :: o3 :: o4 :: o5 :: o6 :: o7 :: o8 :: o9 :: o10 :: o11 :: o12 :: o13 :: o14 :: o15 :: o16 :: o17 :: some (.tup l) :: ρ))) := enumS_gen (q := ⟨_, .inl rfl⟩) fun R => rfl
theorem ev_enL18 : Ev (iEnumS (ePure (pVar 18)) (o0 :: o1 :: o2 :: o3 :: o4 :: o5 :: o6 :: o7 :: o8 :: o9 :: o10 :: o11 :: o12 :: o13 :: o14 :: o15 :: o16 :: o17 :: some (.lst none l) :: ρ) QI Qx) = Ev (OwsQ l (QI (enumD l) (o0 :: o1 :: o2 :: o3 :: o4 :: o5 :: o6 :: o7 :: o8 :: o9 :: o10 :: o11 :: o12 :: o13 :: o14 :: o15 :: o16 :: o17 :: some (.lst none l) :: ρ))) := enumS_gen (q := ⟨_, .inr rfl⟩) fun R => rfl
theorem ev_enS19 : ∀ {q : Sq l}, Ev (iEnumS (ePure (pVar 19)) (o0 :: o1 :: o2 :: o3 :: o4 :: o5 :: o6 :: o7 :: o8 :: o9 :: o10 :: o11 :: o12 :: o13 :: o14 :: o15 :: o16 :: o17 :: o18 :: some q.d :: ρ) QI Qx) = Ev (OwsQ l (QI (enumD l) (o0 :: o1 :: o2 :: o3 :: o4 :: o5 :: o6 :: o7 :: o8 :: o9 :: o10 :: o11 :: o12 :: o13 :: o14 :: o15 :: o16 :: o17 :: o18 :: some q.d :: ρ))) := by intro q; exact enumS_gen fun R => rfl
theorem ev_enT19 : Ev (iEnumS (ePure (pVar 19)) (o0 :: o1 :: o2 :: o3 :: o4 :: o5 :: o6 :: o7 :: o8 :: o9 :: o10 :: o11 :: o12 :: o13 :: o14 :: o15 :: o16 :: o17 :: o18 :: some (.tup l) :: ρ) QI Qx) = Ev (OwsQ l (QI (enumD l) (o0 :: o1 :: o2 :: o3 :: o4 :: o5 :: o6 :: o7 :: o8 :: o9 :: o10 :: o11 :: o12 :: o13 :: o14 :: o15 :: o16 :: o17 :: o18 :: some (.tup l) :: ρ))) := enumS_gen (q := ⟨_, .inl rfl⟩) fun R => rfl
theorem ev_enL19 : Ev (iEnumS (ePure (pVar 19)) (o0 :: o1 :: o2 :: o3 :: o4 :: o5 :: o6 :: o7 :: o8 :: o9 :: o10 :: o11 :: o12 :: o13 :: o14 :: o15 :: o16 :: o17 :: o18 :: some (.lst none l) :: ρ) QI Qx) = Ev (OwsQ l (QI (enumD l) (o0 :: o1 :: o2 :: o3 :: o4 :: o5 :: o6 :: o7 :: o8 :: o9 :: o10 :: o11 :: o12 :: o13 :: o14 :: o15 :: o16 :: o17 :: o18 :: some (.lst none l) :: ρ))) := enumS_gen (q := ⟨_, .inr rfl⟩) fun R => rfl
theorem ev_enS20 : ∀ {q : Sq l}, Ev (iEnumS (ePure (pVar 20)) (o0 :: o1 :: o2 :: o3 :: o4 :: o5 :: o6 :: o7 :: o8 :: o9 :: o10 :: o11 :: o12 :: o13 :: o14 :: o15 :: o16 :: o17 :: o18 :: o19 :: some q.d :: ρ) QI Qx) = Ev (OwsQ l (QI (enumD l) (o0 :: o1 :: o2 :: o3 :: o4 :: o5 :: o6 :: o7 :: o8 :: o9 :: o10 :: o11 :: o12 :: o13 :: o14 :: o15 :: o16 :: o17 :: o18 :: o19 :: some q.d :: ρ))) := by intro q; exact enumS_gen fun R => rfl
theorem ev_enT20 : Ev (iEnumS (ePure (pVar 20)) (o0 :: o1 :: o2 :: o3 :: o4 :: o5 :: o6 :: o7 :: o8 :: o9 :: o10 :: o11 :: o12 :: o13 :: o14 :: o15 :: o16 :: o17 :: o18 :: o19 :: some (.tup l) :: ρ) QI Qx) = Ev (OwsQ l (QI (enumD l) (o0 :: o1 :: o2 :: o3 :: o4 :: o5 :: o6 :: o7 :: o8 :: o9 :: o10 :: o11 :: o12 :: o13 :: o14 :: o15 :: o16 :: o17 :: o18 :: o19 :: some (.tup l) :: ρ))) := enumS_gen (q := ⟨_, .inl rfl⟩) fun R => rfl
theorem ev_enL20 : Ev (iEnumS (ePure (pVar 20)) (o0 :: o1 :: o2 :: o3 :: o4 :: o5 :: o6 :: o7 :: o8 :: o9 :: o10 :: o11 :: o12 :: o13 :: o14 :: o15 :: o16 :: o17 :: o18 :: o19 :: some (.lst none l) :: ρ) QI Qx) = Ev (OwsQ l (QI (enumD l) (o0 :: o1 :: o2 :: o3 :: o4 :: o5 :: o6 :: o7 :: o8 :: o9 :: o10 :: o11 :: o12 :: o13 :: o14 :: o15 :: o16 :: o17 :: o18 :: o19 :: some (.lst none l) :: ρ))) := enumS_gen (q := ⟨_, .inr rfl⟩) fun R => rfl
theorem ev_enS21 : ∀ {q : Sq l}, Ev (iEnumS (ePure (pVar 21)) (o0 :: o1 :: o2 :: o3 :: o4 :: o5 :: o6 :: o7 :: o8 :: o9 :: o10 :: o11 :: o12 :: o13 :: o14 :: o15 :: o16 :: o17 :: o18 :: o19 :: o20 :: some q.d :: ρ) QI Qx) = Ev (OwsQ l (QI (enumD l) (o0 :: o1 :: o2 :: o3 :: o4 :: o5 :: o6 :: o7 :: o8 :: o9 :: o10 :: o11 :: o12 :: o13 :: o14 :: o15 :: o16 :: o17 :: o18 :: o19 :: o20 :: some q.d :: ρ))) := by intro q; exact enumS_gen fun R => rfl
theorem ev_enT21 : Ev (iEnumS (ePure (pVar 21)) (o0 :: o1 :: o2 :: o3 :: o4 :: o5 :: o6 :: o7 :: o8 :: o9 :: o10 :: o11 :: o12 :: o13 :: o14 :: o15 :: o16 :: o17 :: o18 :: o19 :: o20 :: some (.tup l) :: ρ) QI Qx) = Ev (OwsQ l (QI (enumD l) (o0 :: o1 :: o2 :: o3 :: o4 :: o5 :: o6 :: o7 :: o8 :: o9 :: o10 :: o11 :: o12 :: o13 :: o14 :: o15 :: o16 :: o17 :: o18 :: o19 :: o20 :: some (.tup l) :: ρ))) := enumS_gen (q := ⟨_, .inl rfl⟩) fun R => rfl
theorem ev_enL21 : Ev (iEnumS (ePure (pVar 21)) (o0 :: o1 :: o2 :: o3 :: o4 :: o5 :: o6 :: o7 :: o8 :: o9 :: o10 :: o11 :: o12 :: o13 :: o14 :: o15 :: o16 :: o17 :: o18 :: o19 :: o20 :: some (.lst none l) :: ρ) QI Qx) = Ev (OwsQ l (QI (enumD l) (o0 :: o1 :: o2 :: o3 :: o4 :: o5 :: o6 :: o7 :: o8 :: o9 :: o10 :: o11 :: o12 :: o13 :: o14 :: o15 :: o16 :: o17 :: o18 :: o19 :: o20 :: some (.lst none l) :: ρ))) := enumS_gen (q := ⟨_, .inr rfl⟩) fun R => rfl
theorem ev_enS22 : ∀ {q : Sq l}, Ev (iEnumS (ePure (pVar 22)) (o0 :: o1 :: o2 :: o3 :: o4 :: o5 :: o6 :: o7 :: o8 :: o9 :: o10 :: o11 :: o12 :: o13 :: o14 :: o15 :: o16 :: o17 :: o18 :: o19 :: o20 :: o21 :: some q.d :: ρ) QI Qx) = Ev (OwsQ l (QI (enumD l) (o0 :: o1 :: o2 :: o3 :: o4 :: o5 :: o6 :: o7 :: o8 :: o9 :: o10 :: o11 :: o12 :: o13 :: o14 :: o15 :: o16 :: o17 :: o18 :: o19 :: o20 :: o21 :: some q.d :: ρ))) := by intro q; exact enumS_gen fun R => rfl
theorem ev_enT22 : Ev (iEnumS (ePure (pVar 22)) (o0 :: o1 :: o2 :: o3 :: o4 :: o5 :: o6 :: o7 :: o8 :: o9 :: o10 :: o11 :: o12 :: o13 :: o14 :: o15 :: o16 :: o17 :: o18 :: o19 :: o20 :: o21 :: some (.tup l) :: ρ) QI Qx) = Ev (OwsQ l (QI (enumD l) (o0 :: o1 :: o2 :: o3 :: o4 :: o5 :: o6 :: o7 :: o8 :: o9 :: o10 :: o11 :: o12 :: o13 :: o14 :: o15 :: o16 :: o17 :: o18 :: o19 :: o20 :: o21 :: some (.tup l) :: ρ))) := enumS_gen (q := ⟨_, .inl rfl⟩) fun R => rfl
theorem ev_enL22 : Ev (iEnumS (ePure (pVar 22)) (o0 :: o1 :: o2 :: o3 :: o4 :: o5 :: o6 :: o7 :: o8 :: o9 :: o10 :: o11 :: o12 :: o13 :: o14 :: o15 :: o16 :: o17 :: o18 :: o19 :: o20 :: o21 :: some (.lst none l) :: ρ) QI Qx) = Ev (OwsQ l (QI (enumD l) (o0 :: o1 :: o2 :: o3 :: o4 :: o5 :: o6 :: o7 :: o8 :: o9 :: o10 :: o11 :: o12 :: o13 :: o14 :: o15 :: o16 :: o17 :: o18 :: o19 :: o20 :: o21 :: some (.lst none l) :: ρ))) := enumS_gen (q := ⟨_, .inr rfl⟩) fun R => rfl
theorem ev_enS23 : ∀ {q : Sq l}, Ev (iEnumS (ePure (pVar 23)) (o0 :: o1 :: o2 :: o3 :: o4 :: o5 :: o6 :: o7 :: o8 :: o9 :: o10 :: o11 :: o12 :: o13 :: o14 :: o15 :: o16 :: o17 :: o18 :: o19 :: o20 :: o21 :: o22 :: some q.d :: ρ) QI Qx) = Ev (OwsQ l (QI (enumD l) (o0 :: o1 :: o2 :: o3 :: o4 :: o5 :: o6 :: o7 :: o8 :: o9 :: o10 :: o11 :: o12 :: o13 :: o14 :: o15 :: o16 :: o17 :: o18 :: o19 :: o20 :: o21 :: o22 :: some q.d :: ρ))) := by intro q; exact enumS_gen fun R => rfl
theorem ev_enT23 : Ev (iEnumS (ePure (pVar 23)) (o0 :: o1 :: o2 :: o3 :: o4 :: o5 :: o6 :: o7 :: o8 :: o9 :: o10 :: o11 :: o12 :: o13 :: o14 :: o15 :: o16 :: o17 :: o18 :: o19 :: o20 :: o21 :: o22 :: some (.tup l) :: ρ) QI Qx) = Ev (OwsQ l (QI (enumD l) (o0 :: o1 :: o2 :: o3 :: o4 :: o5 :: o6 :: o7 :: o8 :: o9 :: o10 :: o11 :: o12 :: o13 :: o14 :: o15 :: o16 :: o17 :: o18 :: o19 :: o20 :: o21 :: o22 :: some (.tup l) :: ρ))) := enumS_gen (q := ⟨_, .inl rfl⟩) fun R => rfl
theorem ev_enL23 : Ev (iEnumS (ePure (pVar 23)) (o0 :: o1 :: o2 :: o3 :: o4 :: o5 :: o6 :: o7 :: o8 :: o9 :: o10 :: o11 :: o12 :: o13 :: o14 :: o15 :: o16 :: o17 :: o18 :: o19 :: o20 :: o21 :: o22 :: some (.lst none l) :: ρ) QI Qx) = Ev (OwsQ l (QI (enumD l) (o0 :: o1 :: o2 :: o3 :: o4 :: o5 :: o6 :: o7 :: o8 :: o9 :: o10 :: o11 :: o12 :: o13 :: o14 :: o15 :: o16 :: o17 :: o18 :: o19 :: o20 :: o21 :: o22 :: some (.lst none l) :: ρ))) := enumS_gen (q := ⟨_, .inr rfl⟩) fun R => rfl
theorem ev_enS24 : ∀ {q : Sq l}, Ev (iEnumS (ePure (pVar 24)) (o0 :: o1 :: o2 :: o3 :: o4 :: o5 :: o6 :: o7 :: o8 :: o9 :: o10 :: o11 :: o12 :: o13 :: o14 :: o15 :: o16 :: o17 :: o18 :: o19 :: o20 :: o21 :: o22 :: o23 :: some q.d :: ρ) QI Qx) = Ev (OwsQ l (QI (enumD l) (o0 :: o1 :: o2 :: o3 :: o4 :: o5 :: o6 :: o7 :: o8 :: o9 :: o10 :: o11 :: o12 :: o13 :: o14 :: o15 :: o16 :: o17 :: o18 :: o19 :: o20 :: o21 :: o22 :: o23 :: some q.d :: ρ))) := by intro q; exact enumS_gen fun R => rfl
theorem ev_enT24 : Ev (iEnumS (ePure (pVar 24)) (o0 :: o1 :: o2 :: o3 :: o4 :: o5 :: o6 :: o7 :: o8 :: o9 :: o10 :: o11 :: o12 :: o13 :: o14 :: o15 :: o16 :: o17 :: o18 :: o19 :: o20 :: o21 :: o22 :: o23 :: some (.tup l) :: ρ) QI Qx) = Ev (OwsQ l (QI (enumD l) (o0 :: o1 :: o2 :: o3 :: o4 :: o5 :: o6 :: o7 :: o8 :: o9 :: o10 :: o11 :: o12 :: o13 :: o14 :: o15 :: o16 :: o17 :: o18 :: o19 :: o20 :: o21 :: o22 :: o23 :: some (.tup l) :: ρ))) := enumS_gen (q := ⟨_, .inl rfl⟩) fun R => rfl
theorem ev_enL24 : Ev (iEnumS (ePure (pVar 24)) (o0 :: o1 :: o2 :: o3 :: o4 :: o5 :: o6 :: o7 :: o8 :: o9 :: o10 :: o11 :: o12 :: o13 :: o14 :: o15 :: o16 :: o17 :: o18 :: o19 :: o20 :: o21 :: o22 :: o23 :: some (.lst none l) :: ρ) QI Qx) = Ev (OwsQ l (QI (enumD l) (o0 :: o1 :: o2 :: o3 :: o4 :: o5 :: o6 :: o7 :: o8 :: o9 :: o10 :: o11 :: o12 :: o13 :: o14 :: o15 :: o16 :: o17 :: o18 :: o19 :: o20 :: o21 :: o22 :: o23 :: some (.lst none l) :: ρ))) := enumS_gen (q := ⟨_, .inr rfl⟩) fun R => rfl
theorem ev_enS25 : ∀ {q : Sq l}, Ev (iEnumS (ePure (pVar 25)) (o0 :: o1 :: o2 :: o3 :: o4 :: o5 :: o6 :: o7 :: o8 :: o9 :: o10 :: o11 :: o12 :: o13 :: o14 :: o15 :: o16 :: o17 :: o18 :: o19 :: o20 :: o21 :: o22 :: o23 :: o24 :: some q.d :: ρ) QI Qx) = Ev (OwsQ l (QI (enumD l) (o0 :: o1 :: o2 :: o3 :: o4 :: o5 :: o6 :: o7 :: o8 :: o9 :: o10 :: o11 :: o12 :: o13 :: o14 :: o15 :: o16 :: o17 :: o18 :: o19 :: o20 :: o21 :: o22 :: o23 :: o24 :: some q.d :: ρ))) := by intro q; exact enumS_gen fun R => rfl
theorem ev_enT25 : Ev (iEnumS (ePure (pVar 25)) (o0 :: o1 :: o2 :: o3 :: o4 :: o5 :: o6 :: o7 :: o8 :: o9 :: o10 :: o11 :: o12 :: o13 :: o14 :: o15 :: o16 :: o17 :: o18 :: o19 :: o20 :: o21 :: o22 :: o23 :: o24 :: some (.tup l) :: ρ) QI Qx) = Ev (OwsQ l (QI (enumD l) (o0 :: o1 :: o2 :: o3 :: o4 :: o5 :: o6 :: o7 :: o8 :: o9 :: o10 :: o11 :: o12 :: o13 :: o14 :: o15 :: o16 :: o17 :: o18 :: o19 :: o20 :: o21 :: o22 :: o23 :: o24 :: some (.tup l) :: ρ))) := enumS_gen (q := ⟨_, .inl rfl⟩) fun R => rfl
theorem ev_enL25 : Ev (iEnumS (ePure (pVar 25)) (o0 :: o1 :: o2 :: o3 :: o4 :: o5 :: o6 :: o7 :: o8 :: o9 :: o10 :: o11 :: o12 :: o13 :: o14 :: o15 :: o16 :: o17 :: o18 :: o19 :: o20 :: o21 :: o22 :: o23 :: o24 :: some (.lst none l) :: ρ) QI Qx) = Ev (OwsQ l (QI (enumD l) (o0 :: o1 :: o2 :: o3 :: o4 :: o5 :: o6 :: o7 :: o8 :: o9 :: o10 :: o11 :: o12 :: o13 :: o14 :: o15 :: o16 :: o17 :: o18 :: o19 :: o20 :: o21 :: o22 :: o23 :: o24 :: some (.lst none l) :: ρ))) := enumS_gen (q := ⟨_, .inr rfl⟩) fun R => rfl
theorem ev_enS26 : ∀ {q : Sq l}, Ev (iEnumS (ePure (pVar 26)) (o0 :: o1 :: o2 :: o3 :: o4 :: o5 :: o6 :: o7 :: o8 :: o9 :: o10 :: o11 :: o12 :: o13 :: o14 :: o15 :: o16 :: o17 :: o18 :: o19 :: o20 :: o21 :: o22 :: o23 :: o24 :: o25 :: some q.d :: ρ) QI Qx) = Ev (OwsQ l (QI (enumD l) (o0 :: o1 :: o2 :: o3 :: o4 :: o5 :: o6 :: o7 :: o8 :: o9 :: o10 :: o11 :: o12 :: o13 :: o14 :: o15 :: o16 :: o17 :: o18 :: o19 :: o20 :: o21 :: o22 :: o23 :: o24 :: o25 :: some q.d :: ρ))) := by intro q; exact enumS_gen fun R => rfl
theorem ev_enT26 : Ev (iEnumS (ePure (pVar 26)) (o0 :: o1 :: o2 :: o3 :: o4 :: o5 :: o6 :: o7 :: o8 :: o9 :: o10 :: o11 :: o12 :: o13 :: o14 :: o15 :: o16 :: o17 :: o18 :: o19 :: o20 :: o21 :: o22 :: o23 :: o24 :: o25 :: some (.tup l) :: ρ) QI Qx) = Ev (OwsQ l (QI (enumD l) (o0 :: o1 :: o2 :: o3 :: o4 :: o5 :: o6 :: o7 :: o8 :: o9 :: o10 :: o11 :: o12 :: o13 :: o14 :: o15 :: o16 :: o17 :: o18 :: o19 :: o20 :: o21 :: o22 :: o23 :: o24 :: o25 :: some (.tup l) :: ρ))) := enumS_gen (q := ⟨_, .inl rfl⟩) fun R => rfl
theorem ev_enL26 : Ev (iEnumS (ePure (pVar 26)) (o0 :: o1 :: o2 :: o3 :: o4 :: o5 :: o6 :: o7 :: o8 :: o9 :: o10 :: o11 :: o12 :: o13 :: o14 :: o15 :: o16 :: o17 :: o18 :: o19 :: o20 :: o21 :: o22 :: o23 :: o24 :: o25 :: some (.lst none l) :: ρ) QI Qx) = Ev (OwsQ l (QI (enumD l) (o0 :: o1 :: o2 :: o3 :: o4 :: o5 :: o6 :: o7 :: o8 :: o9 :: o10 :: o11 :: o12 :: o13 :: o14 :: o15 :: o16 :: o17 :: o18 :: o19 :: o20 :: o21 :: o22 :: o23 :: o24 :: o25 :: some (.lst none l) :: ρ))) := enumS_gen (q := ⟨_, .inr rfl⟩) fun R => rfl
theorem ev_enS27 : ∀ {q : Sq l}, Ev (iEnumS (ePure (pVar 27)) (o0 :: o1 :: o2 :: o3 :: o4 :: o5 :: o6 :: o7 :: o8 :: o9 :: o10 :: o11 :: o12 :: o13 :: o14 :: o15 :: o16 :: o17 :: o18 :: o19 :: o20 :: o21 :: o22 :: o23 :: o24 :: o25 :: o26 :: some q.d :: ρ) QI Qx) = Ev (OwsQ l (QI (enumD l) (o0 :: o1 :: o2 :: o3 :: o4 :: o5 :: o6 :: o7 :: o8 :: o9 :: o10 :: o11 :: o12 :: o13 :: o14 :: o15 :: o16 :: o17 :: o18 :: o19 :: o20 :: o21 :: o22 :: o23 :: o24 :: o25 :: o26 :: some q.d :: ρ))) := by intro q; exact enumS_gen fun R => rfl
theorem ev_enT27 : Ev (iEnumS (ePure (pVar 27)) (o0 :: o1 :: o2 :: o3 :: o4 :: o5 :: o6 :: o7 :: o8 :: o9 :: o10 :: o11 :: o12 :: o13 :: o14 :: o15 :: o16 :: o17 :: o18 :: o19 :: o20 :: o21 :: o22 :: o23 :: o24 :: o25 :: o26 :: some (.tup l) :: ρ) QI Qx) = Ev (OwsQ l (QI (enumD l) (o0 :: o1 :: o2 :: o3 :: o4 :: o5 :: o6 :: o7 :: o8 :: o9 :: o10 :: o11 :: o12 :: o13 :: o14 :: o15 :: o16 :: o17 :: o18 :: o19 :: o20 :: o21 :: o22 :: o23 :: o24 :: o25 :: o26 :: some (.tup l) :: ρ))) := enumS_gen (q := ⟨_, .inl rfl⟩) fun R => rfl
theorem ev_enL27 : Ev (iEnumS (ePure (pVar 27)) (o0 :: o1 :: o2 :: o3 :: o4 :: o5 :: o6 :: o7 :: o8 :: o9 :: o10 :: o11 :: o12 :: o13 :: o14 :: o15 :: o16 :: o17 :: o18 :: o19 :: o20 :: o21 :: o22 :: o23 :: o24 :: o25 :: o26 :: some (.lst none l) :: ρ) QI Qx) = Ev (OwsQ l (QI (enumD l) (o0 :: o1 :: o2 :: o3 :: o4 :: o5 :: o6 :: o7 :: o8 :: o9 :: o10 :: o11 :: o12 :: o13 :: o14 :: o15 :: o16 :: o17 :: o18 :: o19 :: o20 :: o21 :: o22 :: o23 :: o24 :: o25 :: o26 :: some (.lst none l) :: ρ))) := enumS_gen (q := ⟨_, .inr rfl⟩) fun R => rfl
theorem ev_enS28 : ∀ {q : Sq l}, Ev (iEnumS (ePure (pVar 28)) (o0 :: o1 :: o2 :: o3 :: o4 :: o5 :: o6 :: o7 :: o8 :: o9 :: o10 :: o11 :: o12 :: o13 :: o14 :: o15 :: o16 :: o17 :: o18 :: o19 :: o20 :: o21 :: o22 :: o23 :: o24 :: o25 :: o26 :: o27 :: some q.d :: ρ) QI Qx) = Ev (OwsQ l (QI (enumD l) (o0 :: o1 :: o2 :: o3 :: o4 :: o5 :: o6 :: o7 :: o8 :: o9 :: o10 :: o11 :: o12 :: o13 :: o14 :: o15 :: o16 :: o17 :: o18 :: o19 :: o20 :: o21 :: o22 :: o23 :: o24 :: o25 :: o26 :: o27 :: some q.d :: ρ))) := by intro q; exact enumS_gen fun R => rfl
theorem ev_enT28 : Ev (iEnumS (ePure (pVar 28)) (o0 :: o1 :: o2 :: o3 :: o4 :: o5 :: o6 :: o7 :: o8 :: o9 :: o10 :: o11 :: o12 :: o13 :: o14 :: o15 :: o16 :: o17 :: o18 :: o19 :: o20 :: o21 :: o22 :: o23 :: o24 :: o25 :: o26 :: o27 :: some (.tup l) :: ρ) QI Qx) = Ev (OwsQ l (QI (enumD l) (o0 :: o1 :: o2 :: o3 :: o4 :: o5 :: o6 :: o7 :: o8 :: o9 :: o10 :: o11 :: o12 :: o13 :: o14 :: o15 :: o16 :: o17 :: o18 :: o19 :: o20 :: o21 :: o22 :: o23 :: o24 :: o25 :: o26 :: o27 :: some (.tup l) :: ρ))) := enumS_gen (q := ⟨_, .inl rfl⟩) fun R => rfl
theorem ev_enL28 : Ev (iEnumS (ePure (pVar 28)) (o0 :: o1 :: o2 :: o3 :: o4 :: o5 :: o6 :: o7 :: o8 :: o9 :: o10 :: o11 :: o12 :: o13 :: o14 :: o15 :: o16 :: o17 :: o18 :: o19 :: o20 :: o21 :: o22 :: o23 :: o24 :: o25 :: o26 :: o27 :: some (.lst none l) :: ρ) QI Qx) = Ev (OwsQ l (QI (enumD l) (o0 :: o1 :: o2 :: o3 :: o4 :: o5 :: o6 :: o7 :: o8 :: o9 :: o10 :: o11 :: o12 :: o13 :: o14 :: o15 :: o16 :: o17 :: o18 :: o19 :: o20 :: o21 :: o22 :: o23 :: o24 :: o25 :: o26 :: o27 :: some (.lst none l) :: ρ))) := enumS_gen (q := ⟨_, .inr rfl⟩) fun R => rfl
theorem ev_enS29 : ∀ {q : Sq l}, Ev (iEnumS (ePure (pVar 29)) (o0 :: o1 :: o2 :: o3 :: o4 :: o5 :: o6 :: o7 :: o8 :: o9 :: o10 :: o11 :: o12 :: o13 :: o14 :: o15 :: o16 :: o17 :: o18 :: o19 :: o20 :: o21 :: o22 :: o23 :: o24 :: o25 :: o26 :: o27 :: o28 :: some q.d :: ρ) QI Qx) = Ev (OwsQ l (QI (enumD l) (o0 :: o1 :: o2 :: o3 :: o4 :: o5 :: o6 :: o7 :: o8 :: o9 :: o10 :: o11 :: o12 :: o13 :: o14 :: o15 :: o16 :: o17 :: o18 :: o19 :: o20 :: o21 :: o22 :: o23 :: o24 :: o25 :: o26 :: o27 :: o28 :: some q.d :: ρ))) := by intro q; exact enumS_gen fun R => rfl
theorem ev_enT29 : Ev (iEnumS (ePure (pVar 29)) (o0 :: o1 :: o2 :: o3 :: o4 :: o5 :: o6 :: o7 :: o8 :: o9 :: o10 :: o11 :: o12 :: o13 :: o14 :: o15 :: o16 :: o17 :: o18 :: o19 :: o20 :: o21 :: o22 :: o23 :: o24 :: o25 :: o26 :: o27 :: o28 :: some (.tup l) :: ρ) QI Qx) = Ev (OwsQ l (QI (enumD l) (o0 :: o1 :: o2 :: o3 :: o4 :: o5 :: o6 :: o7 :: o8 :: o9 :: o10 :: o11 :: o12 :: o13 :: o14 :: o15 :: o16 :: o17 :: o18 :: o19 :: o20 :: o21 :: o22 :: o23 :: o24 :: o25 :: o26 :: o27 :: o28 :: some (.tup l) :: ρ))) := enumS_gen (q := ⟨_, .inl rfl⟩) fun R => rfl
theorem ev_enL29 : Ev (iEnumS (ePure (pVar 29)) (o0 :: o1 :: o2 :: o3 :: o4 :: o5 :: o6 :: o7 :: o8 :: o9 :: o10 :: o11 :: o12 :: o13 :: o14 :: o15 :: o16 :: o17 :: o18 :: o19 :: o20 :: o21 :: o22 :: o23 :: o24 :: o25 :: o26 :: o27 :: o28 :: some (.lst none l) :: ρ) QI Qx) = Ev (OwsQ l (QI (enumD l) (o0 :: o1 :: o2 :: o3 :: o4 :: o5 :: o6 :: o7 :: o8 :: o9 :: o10 :: o11 :: o12 :: o13 :: o14 :: o15 :: o16 :: o17 :: o18 :: o19 :: o20 :: o21 :: o22 :: o23 :: o24 :: o25 :: o26 :: o27 :: o28 :: some (.lst none l) :: ρ))) := enumS_gen (q := ⟨_, .inr rfl⟩) fun R => rfl
theorem ev_adq : Ev (AdQ (some a) a A) = Ev A := propext ⟨fun h => h.2, fun h => ⟨rfl, h⟩⟩
end
section
variable {g : Gw} {wt : Tw} {we : Ew} {w1 : Sw} {nx bk ct : Env → Prop} {rt : D → Env → Prop} {xx : QX} {ρ : Env} {Q : D → Env → Prop} {Qx : QX} {A B : Prop} {l : List D} {vs : List Nat} {d : D} {R : D → Prop} {RB : Bool → Prop} {i : Int} {RL : List D → Prop}
theorem br {p : Prop} [h : Decidable p] (h1 : p → Ev A) (h2 : ¬ p → Ev B) : Ev (IfB (decide p) A B) := by
  unfold IfB
  by_cases hp : p
  · rw [decide_eq_true hp, if_pos rfl]; exact h1 hp
  · rw [decide_eq_false hp, if_neg Bool.false_ne_true]; exact h2 hp
theorem brT {p : Prop} [h : Decidable p] (hp : p) (h1 : Ev A) : Ev (IfB (decide p) A B) := br (fun _ => h1) fun h => absurd hp h
theorem brF {p : Prop} [h : Decidable p] (hp : ¬ p) (h1 : Ev B) : Ev (IfB (decide p) A B) := br (fun h => absurd h hp) fun _ => h1
theorem brB {b : Bool} (h1 : b = true → Ev A) (h2 : b = false → Ev B) : Ev (IfB b A B) := by
  cases b with
  | true => exact h1 rfl
  | false => exact h2 rfl
theorem ow (h : own d = []) (q : Ev A) : Ev (OwQ d A) := ⟨h, q⟩
theorem ows (h : owns l = []) (q : Ev A) : Ev (OwsQ l A) := ⟨h, q⟩
theorem sz {n : Nat} (h : n ≤ 100000) (q : Ev A) : Ev (SzQ n A) := ⟨size_le h, q⟩
theorem tru {k : Bool} (h : truD d = some k) (q : Ev (RB k)) : Ev (TruQ d RB) := by
  show (match truD d with | some k => RB k | none => False)
  rw [h]; exact q
theorem at_ {e : D} (h : atI l i = some e) (q : Ev (R e)) : Ev (AtQ l i R) := by
  show (match atI l i with | some d => R d | none => False)
  rw [h]; exact q
theorem at_map {α : Type} {f : α → D} {xs : List α} {x : α} (k : Nat) (hk : i = (k : Int)) (h : xs[k]? = some x) (q : Ev (R (f x))) : Ev (AtQ (xs.map f) i R) := at_ (by rw [hk]; exact atI_map h) q
def nt {α : Type} [Inhabited α] (l : List α) (k : Nat) : α := l.getD k default
theorem nt_get {α : Type} [Inhabited α] {l : List α} {k : Nat} (h : k < l.length) : l[k]? = some (nt l k) := by
  unfold nt
  rw [List.getElem?_eq_getElem h, List.getD_eq_getElem?_getD, List.getElem?_eq_getElem h]; rfl
theorem nt_of {α : Type} [Inhabited α] {l : List α} {k : Nat} {x : α} (h : l[k]? = some x) : nt l k = x := by
  unfold nt
  rw [List.getD_eq_getElem?_getD, h]; rfl
theorem at_nt {α : Type} [Inhabited α] {f : α → D} {xs : List α} (k : Nat) (hk : i = (k : Int)) (h : k < xs.length) (q : Ev (R (f (nt xs k)))) : Ev (AtQ (xs.map f) i R) := at_map k hk (nt_get h) q
theorem at_last {α : Type} [Inhabited α] {f : α → D} {xs : List α} (h : 0 < xs.length) (q : Ev (R (f (nt xs (xs.length - 1))))) : Ev (AtQ (xs.map f) (-1) R) := by
  refine at_ (atI_neg1 ?_ (by rw [List.length_map]; exact h)) q
  rw [List.length_map, List.getElem?_map, nt_get (by omega)]; rfl
theorem atI2 {x y : Int} (h0 : 0 ≤ i) (h1 : i < 2) (q : ∀ v, v = x ∨ v = y → Ev (R (.int v))) : Ev (AtQ [.int x, .int y] i R) := by
  have : i = 0 ∨ i = 1 := by omega
  rcases this with rfl | rfl
  · exact at_ rfl (q x (.inl rfl))
  · exact at_ rfl (q y (.inr rfl))
theorem atI3 {x y z : Int} (h0 : 0 ≤ i) (h1 : i < 3) (q : ∀ v, v = x ∨ v = y ∨ v = z → Ev (R (.int v))) : Ev (AtQ [.int x, .int y, .int z] i R) := by
  have : i = 0 ∨ i = 1 ∨ i = 2 := by omega
  rcases this with rfl | rfl | rfl
  · exact at_ rfl (q x (.inl rfl))
  · exact at_ rfl (q y (.inr (.inl rfl)))
  · exact at_ rfl (q z (.inr (.inr rfl)))
theorem at2 {x y : D} (h0 : 0 ≤ i) (h1 : i < 2) (a : i = 0 → Ev (R x)) (b : i = 1 → Ev (R y)) : Ev (AtQ [x, y] i R) := by
  have : i = 0 ∨ i = 1 := by omega
  rcases this with rfl | rfl
  · exact at_ rfl (a rfl)
  · exact at_ rfl (b rfl)
theorem at3 {x y z : D} (h0 : 0 ≤ i) (h1 : i < 3) (a : i = 0 → Ev (R x)) (b : i = 1 → Ev (R y)) (c : i = 2 → Ev (R z)) : Ev (AtQ [x, y, z] i R) := by
  have : i = 0 ∨ i = 1 ∨ i = 2 := by omega
  rcases this with rfl | rfl | rfl
  · exact at_ rfl (a rfl)
  · exact at_ rfl (b rfl)
  · exact at_ rfl (c rfl)
theorem cut_to {l : List D} {k : Nat} (h : k ≤ l.length) : cutD l none (some (k : Int)) = l.take k := by
  unfold cutD
  rw [HT.sIx_nat, HT.sIx_none, Nat.min_eq_left h]
  rw [Nat.sub_zero, List.drop_zero]
theorem cut_from {l : List D} {k : Nat} (h : k ≤ l.length) : cutD l (some (k : Int)) none = l.drop k := by
  unfold cutD
  rw [HT.sIx_nat, HT.sIx_none, Nat.min_eq_left h]
  rw [List.take_of_length_le]
  rw [List.length_drop]; omega
theorem cutM_to {α : Type} {f : α → D} {l : List α} {i : Int} (k : Nat) (hi : i = (k : Int)) (h : k ≤ l.length) : cutD (l.map f) none (some i) = (l.take k).map f := by
  rw [hi, cut_to (by rw [List.length_map]; exact h), List.map_take]
theorem cutM_from {α : Type} {f : α → D} {l : List α} {i : Int} (k : Nat) (hi : i = (k : Int)) (h : k ≤ l.length) : cutD (l.map f) (some i) none = (l.drop k).map f := by
  rw [hi, cut_from (by rw [List.length_map]; exact h), List.map_drop]
theorem cutM_from1 {α : Type} {f : α → D} {l : List α} {k : Nat} (h : k + 1 ≤ l.length) : cutD (l.map f) (some ((k : Int) + 1)) none = (l.drop (k + 1)).map f := cutM_from (k + 1) (by omega) h
theorem cutM_to0 {α : Type} {f : α → D} {l : List α} {k : Nat} (h : k ≤ l.length) : cutD (l.map f) none (some (k : Int)) = (l.take k).map f := cutM_to k rfl h
theorem at_snoc {x : D} (q : Ev (R x)) : Ev (AtQ (l ++ [x]) (-1) R) := at_ (atI_neg1 (by simp) (by simp)) q
/-- loops -/
theorem forS (Inv : Nat → Env → Prop) (h0 : Inv 0 ρ) (hs : ∀ (i : Nat) d ρ2, l[i]? = some d → Inv i ρ2 → Ev (g d ρ2 fun ρ3 => w1 ⟨Inv (i + 1), rt, nx, Inv (i + 1), xx⟩ ρ3)) (he : ∀ ρ2, Inv l.length ρ2 → Ev (nx ρ2)) : Ev (ForS g w1 ⟨nx, rt, bk, ct, xx⟩ l ρ) := ⟨Inv, h0, hs, he⟩
theorem forMap {α : Type} {f : α → D} {xs : List α} (Inv : Nat → Env → Prop) (h0 : Inv 0 ρ) (hs : ∀ (i : Nat) x ρ2, xs[i]? = some x → Inv i ρ2 → Ev (g (f x) ρ2 fun ρ3 => w1 ⟨Inv (i + 1), rt, nx, Inv (i + 1), xx⟩ ρ3)) (he : ∀ ρ2, Inv xs.length ρ2 → Ev (nx ρ2)) : Ev (ForS g w1 ⟨nx, rt, bk, ct, xx⟩ (xs.map f) ρ) :=
  forS Inv h0 (fun i d ρ2 hd hI => by obtain ⟨x, hx, rfl⟩ := getq_map hd; exact hs i x ρ2 hx hI) fun ρ2 h => he ρ2 (by rw [List.length_map] at h; exact h)
theorem forRg {lo : Int} {n : Nat} (Inv : Nat → Env → Prop) (h0 : Inv 0 ρ) (hs : ∀ (i : Nat) ρ2, i < n → Inv i ρ2 → Ev (g (.int (lo + (i : Int))) ρ2 fun ρ3 => w1 ⟨Inv (i + 1), rt, nx, Inv (i + 1), xx⟩ ρ3)) (he : ∀ ρ2, Inv n ρ2 → Ev (nx ρ2)) : Ev (ForS g w1 ⟨nx, rt, bk, ct, xx⟩ (iseq lo n) ρ) :=
  forS Inv h0 (fun i d ρ2 hd hI => by obtain ⟨hi, rfl⟩ := iseq_get.mp hd; exact hs i ρ2 hi hI) fun ρ2 h => he ρ2 (by rw [iseq_len] at h; exact h)
theorem forEn {α : Type} {f : α → D} {xs : List α} (Inv : Nat → Env → Prop) (h0 : Inv 0 ρ) (hs : ∀ (i : Nat) x ρ2, xs[i]? = some x → Inv i ρ2 → Ev (g (.tup [.int (i : Nat), f x]) ρ2 fun ρ3 => w1 ⟨Inv (i + 1), rt, nx, Inv (i + 1), xx⟩ ρ3)) (he : ∀ ρ2, Inv xs.length ρ2 → Ev (nx ρ2)) : Ev (ForS g w1 ⟨nx, rt, bk, ct, xx⟩ (enumD (xs.map f)) ρ) :=
  forS Inv h0 (fun i d ρ2 hd hI => by
    obtain ⟨c, hc, rfl⟩ := enumD_get hd
    obtain ⟨x, hx, rfl⟩ := getq_map hc
    exact hs i x ρ2 hx hI) fun ρ2 h => he ρ2 (by unfold enumD at h; rw [List.length_mapIdx, List.length_map] at h; exact h)
theorem whS (Inv : Nat → Env → Prop) (h0 : ∃ m, Inv m ρ) (hs : ∀ m ρ1, Inv m ρ1 → Ev (wt ρ1 (fun b ρ2 => IfB b (w1 ⟨fun ρ3 => ∃ m', m' < m ∧ Inv m' ρ3, rt, nx, fun ρ3 => ∃ m', m' < m ∧ Inv m' ρ3, xx⟩ ρ2) (nx ρ2)) xx)) : Ev (WhS wt w1 ⟨nx, rt, bk, ct, xx⟩ ρ) := by
  show sWhile wt w1 _ ρ
  rw [sWhile_eq]; exact ⟨Inv, h0, hs⟩
/-- comprehensions -/
theorem lcS (Inv : Nat → List D → Env → Prop) (h0 : Inv 0 [] ρ) (hs : ∀ (i : Nat) d acc ρ2, l[i]? = some d → Inv i acc ρ2 → Ev (WpQ ρ2 vs fun ρ2 => g d ρ2 fun ρ3 => wt ρ3 (fun b ρ4 => IfB b (we ρ4 (fun y ρ5 => acc.length < sizeLine ∧ WpQ ρ5 vs (Inv (i + 1) (acc ++ [y]))) (fun _ _ => False)) (WpQ ρ4 vs (Inv (i + 1) acc))) (fun _ _ => False)))
    (he : ∀ acc ρ2, Inv l.length acc ρ2 → ∀ p, Ev (Q (.lst (some p) acc) ρ2)) : Ev (LcS g wt we vs Q l ρ) := ⟨Inv, h0, hs, he⟩
/-- .. that leave the state as it is: the items that are kept, and what becomes of them -/
def LcYes {α : Type} (xs : List α) (c : α → Bool) (f : α → D) (ρ : Env) (vs : List Nat) (i : Nat) (y : D) (ρ5 : Env) : Prop := (((xs.take i).filter c).map f).length < sizeLine ∧ WpQ ρ5 vs fun ρ6 => ρ6 = ρ ∧ ((xs.take i).filter c).map f ++ [y] = ((xs.take (i + 1)).filter c).map f
def LcNo {α : Type} (xs : List α) (c : α → Bool) (f : α → D) (ρ : Env) (vs : List Nat) (i : Nat) (ρ4 : Env) : Prop := WpQ ρ4 vs fun ρ6 => ρ6 = ρ ∧ ((xs.take i).filter c).map f = ((xs.take (i + 1)).filter c).map f
theorem lcYes {α : Type} {xs : List α} {c : α → Bool} {f : α → D} {i : Nat} {y : D} {ρ5 : Env} {x : α} (hx : xs[i]? = some x) (hl : xs.length < 100000) (hc : c x = true) (hy : y = f x) (hw : wipeE ρ5 vs = ρ) : Ev (LcYes xs c f ρ vs i y ρ5) := by
  refine ⟨size_lt ?_, hw, ?_⟩
  · rw [List.length_map]
    have h1 := List.length_filter_le c (xs.take i)
    rw [List.length_take] at h1
    omega
  · rw [List.take_add_one, hx, List.filter_append, List.map_append, hy]
    simp [hc]
theorem lcNo {α : Type} {xs : List α} {c : α → Bool} {f : α → D} {i : Nat} {ρ5 : Env} {x : α} (hx : xs[i]? = some x) (hc : c x = false) (hw : wipeE ρ5 vs = ρ) : Ev (LcNo xs c f ρ vs i ρ5) := by
  refine ⟨hw, ?_⟩
  rw [List.take_add_one, hx, List.filter_append, List.map_append]
  simp [hc]
theorem lcMap {α : Type} {enc : α → D} {xs : List α} (c : α → Bool) (f : α → D) (hw : wipeE ρ vs = ρ) (hs : ∀ (i : Nat) x, xs[i]? = some x → Ev (g (enc x) ρ fun ρ3 => wt ρ3 (fun b ρ4 => IfB b (we ρ4 (LcYes xs c f ρ vs i) (fun _ _ => False)) (LcNo xs c f ρ vs i ρ4)) (fun _ _ => False)))
    (he : ∀ p, Ev (Q (.lst (some p) ((xs.filter c).map f)) ρ)) : Ev (LcS g wt we vs Q (xs.map enc) ρ) := by
  refine lcS (fun i acc ρ' => ρ' = ρ ∧ acc = ((xs.take i).filter c).map f) ⟨rfl, by simp⟩ ?_ ?_
  · rintro i d acc ρ2 hd ⟨rfl, rfl⟩
    obtain ⟨x, hx, rfl⟩ := getq_map hd
    show g _ (wipeE ρ2 vs) _
    rw [hw]
    exact hs i x hx
  · rintro acc ρ2 ⟨rfl, rfl⟩ p
    rw [List.length_map, List.take_length]
    exact he p
theorem lcRg {lo : Int} {n : Nat} (c : Nat → Bool) (f : Nat → D) (hw : wipeE ρ vs = ρ) (hs : ∀ i : Nat, i < n → (List.range n)[i]? = some i → Ev (g (.int (lo + (i : Int))) ρ fun ρ3 => wt ρ3 (fun b ρ4 => IfB b (we ρ4 (LcYes (List.range n) c f ρ vs i) (fun _ _ => False)) (LcNo (List.range n) c f ρ vs i ρ4)) (fun _ _ => False)))
    (he : ∀ p, Ev (Q (.lst (some p) (((List.range n).filter c).map f)) ρ)) : Ev (LcS g wt we vs Q (iseq lo n) ρ) := by
  refine lcMap (xs := List.range n) (enc := fun k : Nat => D.int (lo + (k : Int))) c f hw (fun i x hx => ?_) he
  have hi := lt_of_get hx
  rw [List.length_range] at hi
  have e : i = x := by
    rw [List.getElem?_range hi] at hx
    exact Option.some.inj hx
  subst e
  exact hs i hi hx
theorem filt_all {α β : Type} (l : List α) (f : α → β) : (l.filter fun _ => true).map f = l.map f := by
  rw [List.filter_eq_self.mpr fun _ _ => rfl]
/-- draws -/
theorem take {a : Addr} {s : PoolS a} {many : Int} {as : List Arg} (h1 : 0 < many) (h2 : many ≤ 1000000000000000000) (q : ∀ x (s' : PoolS a), 0 ≤ x → x < many → Ev (giveA as [s'.d, .int many] ρ fun ρ3 => Q (.int x) ρ3)) : Ev (CK sp_take Q Qx as [s.d, .int many] ρ) :=
  ⟨a, s.d, many, rfl, s.ok, h1, h2, fun x d' x0 x1 hp => q x ⟨d', hp⟩ x0 x1⟩
theorem tryX {k : Nat} {C : Addr} {gx : XD → Option (List D)} {ns : List Str} {fs ds : List D} (h : gx ⟨.ref C, ns, fs⟩ = some ds) (hs : ds.length ≤ 100000) (q : ∀ a, Ev (SetK k (some (.cv (.ref a))) ρ (rt (.tup ds)))) : Ev (TryX k C gx rt ⟨.ref C, ns, fs⟩ ρ) := ⟨rfl, ds, h, size_le hs, q⟩
/-- what is left at a def's end -/
theorem finV {d : D} {ds : List D} {o : Option D} {RR : List D → Prop} (h : own d = []) (q : Ev (fin ds ρ fun r => RR (d :: r))) : Ev (fin (d :: ds) (o :: ρ) RR) := .inl ⟨h, q⟩
theorem finP {a : Addr} {s s' : PoolS a} {ds : List D} {RR : List D → Prop} (q : Ev (fin ds ρ fun r => RR (s'.d :: r))) : Ev (fin (s.d :: ds) (some s'.d :: ρ) RR) := .inr ⟨a, s'.d, pool_addr s.ok, rfl, pool_addr s'.ok, q⟩
theorem fin0 {RR : List D → Prop} (q : RR []) : Ev (fin [] ρ RR) := by
  cases ρ <;> exact q
theorem owS {l : List D} (q : Sq l) (h : owns l = []) : own q.d = [] := seq_own q.ok h
theorem lenok {n : Nat} (h : n < 100000) : n < sizeLine := size_lt h
end
end DL
set_option Elab.async false
set_option linter.all false
set_option maxRecDepth 100000
namespace DL
open PySem PySem.Spec PyProof.Rows L2
/-! ### some statements as one, and what holds behind them -/
section
variable {X : Cx} {W : WX} {st : Stmt} {full rest : List Stmt} {w1 w2 : Sw}
def sSeqJ (w1 w2 : Sw) : Sw := fun D ρ => ∃ J : Env → Prop, w1 { D with nx := J } ρ ∧ ∀ ρ', J ρ' → w2 D ρ'
def DSk (X : Cx) (W : WX) (full rest : List Stmt) (w : Sw) : Prop := ∀ t2, PSs X rest t2 → ∃ t, PSs X full t ∧ ∀ (σ : L2.St) (H Z : Hp) (ρ : Env) (D : DEnds) (DD : Ends), St X.K X.N.length Z H σ ρ → w D ρ → Fit X.K X.N.length W Z H (eo ρ) D { DD with nx := t2 DD } → t DD σ H
theorem dsk_one (h1 : DS X W st w1) : DSk X W (st :: rest) rest w1 := fun t2 p2 => by
  obtain ⟨t1, p1, r1⟩ := h1
  exact ⟨_, pss_cons p1 p2, fun σ H Z ρ D DD s w f => r1 σ H Z ρ D { DD with nx := t2 DD } s w f⟩
theorem dsk_cons (h1 : DS X W st w1) (k : DSk X W full rest w2) : DSk X W (st :: full) rest (sSeq w1 w2) := fun t2 p2 => by
  obtain ⟨t1, p1, r1⟩ := h1
  obtain ⟨t, p, r⟩ := k t2 p2
  refine ⟨_, pss_cons p1 p, fun σ H Z ρ D DD s w f => ?_⟩
  rw [sSeq_eq] at w
  refine r1 σ H Z ρ { D with nx := fun ρ' => w2 D ρ' } { DD with nx := t DD } s w ⟨fun σ' ρ' Z' H' q o => ?_, f.bk, f.ct, f.rt, f.xx⟩
  exact r σ' H' Z' ρ' D DD o.st q (f.pre o.step)
theorem dss_J (k : DSk X W full rest w1) (h2 : DSs X W rest w2) : DSs X W full (sSeqJ w1 w2) := by
  obtain ⟨t2, p2, r2⟩ := h2
  obtain ⟨t, p, r⟩ := k t2 p2
  refine ⟨t, p, fun σ H Z ρ D DD s w f => ?_⟩
  obtain ⟨J, hw, hJ⟩ := w
  exact r σ H Z ρ { D with nx := J } DD s hw ⟨fun σ' ρ' Z' H' q o => r2 σ' H' Z' ρ' D DD o.st (hJ ρ' q) (f.pre o.step), f.bk, f.ct, f.rt, f.xx⟩
end
theorem seqJ {w1 w2 : Sw} {nx bk ct : Env → Prop} {rt : D → Env → Prop} {xx : QX} {ρ : Env} (J : Env → Prop) (h1 : Ev (w1 ⟨J, rt, bk, ct, xx⟩ ρ)) (h2 : ∀ ρ', J ρ' → Ev (w2 ⟨nx, rt, bk, ct, xx⟩ ρ')) : Ev (sSeqJ w1 w2 ⟨nx, rt, bk, ct, xx⟩ ρ) := ⟨J, h1, h2⟩
end DL
set_option Elab.async false
set_option linter.all false
set_option maxRecDepth 100000
set_option maxHeartbeats 4000000
namespace DL
open PySem PySem.Spec PyProof.Rows L2
/-! ### several except clauses, some with a name -/
inductive Clauses (X : Cx) : List ExceptHandler → (WX → Ends → WX) → Prop
  | none : Clauses X [] (fun Wo _ => Wo)
  | named {x n : Str} {c : Value} {i : Nat} {ts : Addr → Value → Option Addr → TS} {b0 : Stmt} {su : List Stmt} {np pp : Pos} {hs : List ExceptHandler} {f : WX → Ends → WX}
      (kn : Names X x c) (nm : X.N[i]? = some n) (kl : X.env.kindOf n = some .local)
      (sr : ∀ (a : Addr) (o : Obj) (k : Value) (dd : Option Addr) (pn : List (Addr × Obj)), Zc k dd o → (∃ v, o.data = .fields v) → PSs (X.suite a ((a, o) :: pn)) (b0 :: su) (ts a k dd)) (r : Clauses X hs f) :
      Clauses X (.ExceptHandler (some (.Name x np)) (some n) (b0 :: su) pp :: hs) (fun Wo D => wAs X.K c i ts (f Wo D) D)
  | plain {x : Str} {c : Value} {ts : Addr → Value → Option Addr → TS} {b0 : Stmt} {su : List Stmt} {np pp : Pos} {hs : List ExceptHandler} {f : WX → Ends → WX}
      (kn : Names X x c)
      (sr : ∀ (a : Addr) (o : Obj) (k : Value) (dd : Option Addr) (pn : List (Addr × Obj)), Zc k dd o → (∃ v, o.data = .fields v) → PSs (X.suite a ((a, o) :: pn)) (b0 :: su) (ts a k dd)) (r : Clauses X hs f) :
      Clauses X (.ExceptHandler (some (.Name x np)) none (b0 :: su) pp :: hs) (fun Wo D => wOnly X.K c ts (f Wo D) D)
section
variable {X : Cx} {pins : List (Addr × Obj)} {σ : L2.St} {H : Hp} {a : Addr} {B : Heap} {sI sh : Shared} {cls : Value} {dd : Option Addr} {D : Ends} {Wo : WX} {body : List Stmt} {h0 : ExceptHandler} {hs : List ExceptHandler} {f : WX → Ends → WX} {tb : WX → TS} {pos : Pos}
theorem clauses_run (ok : X.Ok) (own : X.stack = X.env :: X.outer) (loc : X.env.frame = some X.env.locals) (ndp : X.N.Nodup) (pass : Takes X Wo) (base : Inv X pins σ H sI)
    (apart : ∀ b o, sI.heap.get? b = some o → b ∉ frs X.stack → B.get? b = some o) (rise : sI.heap.UpToSlots sh.heap) (oss : sh.os = sI.os) (bare : AllBare sh.gens) (fresh : H a = none)
    (fly : HandSPX.FlyingZ B (X.env :: X.outer) a (Zc cls dd) sh.heap) {hs : List ExceptHandler} {f : WX → Ends → WX} (cl : Clauses X hs f) :
    f Wo D cls dd σ H → wpAny (model X.prog X.w) X.A (handleBy (.ref a) X.env hs) (SP X pins D) X.xe sh := by
  obtain ⟨oe, fs, look, zed, dat⟩ := fly.there
  have outside : a ∉ frs (X.env :: X.outer) := fun hm => by
    obtain ⟨_, oo, eo, no⟩ := fly.2.2.1.mem hm
    rw [look] at eo
    cases eo
    exact no _ dat
  have off1 : a ≠ X.env.locals := fun z => outside (List.mem_filterMap.mpr ⟨X.env, List.mem_cons_self, by rw [loc, z]⟩)
  have off2 : a ∉ X.fs := fun hm => by
    obtain ⟨en, hen, qe⟩ := List.mem_filterMap.mp hm
    exact outside (List.mem_filterMap.mpr ⟨en, List.mem_cons_of_mem _ hen, qe⟩)
  have inv1 : Inv X pins σ H sh := base.landed apart fly.1 rise oss bare
  have inS := inv1.suite look dat fresh off1 off2
  have names : ∀ {x : Str} {c : Value} {np : Pos} {Q E : Value → Shared → Prop}, Names X x c → Q c sh → wpAny (model X.prog X.w) (X.A.mark (some (.ref a))) (eval (.Name x np) X.env) Q E sh := by
    intro x c np Q E kn q
    obtain ⟨g1, g2, g3 | ⟨g3, g4, g5⟩⟩ := kn
    · exact ld_glob (X := X.suite a ((a, oe) :: (X.pn ++ pins))) inS g1 g3 q g2
    · exact ld_blt (X := X.suite a ((a, oe) :: (X.pn ++ pins))) inS g1 g3 g4 q g5 g2
  have kind : PySem.W.Looks (model X.prog X.w) sh.heap (typeOf (.ref a)) cls := fun A Q E s k q => wpAny_typeOf_ref (k _ _ look) (by rw [zed.1]; exact q)
  have again : ∀ {A : Around} {E : Value → Shared → Prop} {Q : Unit → Shared → Prop}, (∀ h4 o4 v4, Inv X pins σ H { sh with heap := h4 } → h4.get? a = some o4 → Zc cls dd o4 → o4.data = .fields v4 → Q () { sh with heap := h4 }) → wpAny (model X.prog X.w) A (setFlight (.ref a) none) Q E sh := by
    intro A E Q hQ
    refine HandSPX.lands_againZ fly fun h4 fl4 up4 => ?_
    obtain ⟨o4, v4, e1, e2, e3⟩ := fl4.there
    exact hQ h4 o4 v4 (base.landed apart fl4.1 (rise.trans up4) oss bare) e1 e2 e3
  induction cl with
  | none =>
    intro w
    refine wpAny_handleBy_nil ?_
    obtain ⟨_, _, _, o1, v1, T, _, _, p1, _, p3, p4, _⟩ := id fly
    have out : wpAny (model X.prog X.w) X.A (setFlight (.ref a) X.env.frame) (fun _ s4 => wpAny (model X.prog X.w) X.A (throw (.ref a) : Sem Flow) (SP X pins D) X.xe s4) X.xe sh := by
      rw [loc]
      refine HandSPX.setFlight_upZ fly fun h4 held up4 => wpAny_throw (pass _ _ ?_)
      refine ⟨a, B, sI, pins, σ, H, cls, dd, rfl, base, apart, rise.trans up4, ?_, fresh, oss, bare, w⟩
      rw [own]; exact .inr (.inr held)
    unfold PySem.passOn
    refine wpAny_bind (wpAny_field p1 p3 p4 ?_)
    rw [if_neg (show ¬ ((Value.ref T == Value.none) = true) from by simp)]
    exact wpAny_bind out
  | @named x n c i ts b0 su np pp rest g kn nm kl sr r ih =>
    rintro ⟨hit, e1, yes, no⟩
    refine wpAny_handleBy_cons (codeAny_handlers_test (names kn ((PySem.W.exm_one inv1.kIn kind e1).here ?_))) (by intro q; cases q)
    cases hit with
    | false => exact ih (no rfl)
    | true =>
      refine codeAny_handlers_suite_as (again fun h4 o4 v4 inv4 g1 g2 g3 => ?_)
      refine store_ok (X := X.suite a ((a, o4) :: (X.pn ++ pins))) (v := .ref a) (inv4.suite g1 g3 fresh off1 off2) ndp nm (.inl kl) rfl (fun s5 inv5 => ?_) (.inr kl)
      refine wpAny_mono ((sr a o4 cls dd (X.pn ++ pins) g2 ⟨_, g3⟩).run [] s5 _ H _ inv5 (yes rfl a fresh)) (fun fl s6 sp => ?_) (fun _ _ z => z.elim)
      have gone : ∀ {σ6 : L2.St} {H6 : Hp} {Q : Shared → Prop}, Inv (X.suite a ((a, o4) :: (X.pn ++ pins))) [] σ6 H6 s6 → (∀ s7, Inv X pins (σ6.set i none) H6 s7 → Q s7) →
          wpAny (model X.prog X.w) X.A (do bindName X.env n .none; unbindBehindTheSuite X.env n pp) (fun _ s7 => Q s7) X.xe s6 := fun inv6 hq => gone_ok (inv6.unsuite ok) ndp nm kl hq
      cases fl with
      | ret u => obtain ⟨v6, σ6, H6, inv6, rv, qv⟩ := sp; exact gone inv6 fun s7 inv7 => ⟨_, _, _, inv7, rv, qv⟩
      | next => obtain ⟨σ6, H6, inv6, qv⟩ := sp; exact gone inv6 fun s7 inv7 => ⟨_, _, inv7, qv⟩
      | brk => obtain ⟨σ6, H6, inv6, qv⟩ := sp; exact gone inv6 fun s7 inv7 => ⟨_, _, inv7, qv⟩
      | cont => obtain ⟨σ6, H6, inv6, qv⟩ := sp; exact gone inv6 fun s7 inv7 => ⟨_, _, inv7, qv⟩
  | @plain x c ts b0 su np pp rest g kn sr r ih =>
    rintro ⟨hit, e1, yes, no⟩
    refine wpAny_handleBy_cons (codeAny_handlers_test (names kn ((PySem.W.exm_one inv1.kIn kind e1).here ?_))) (by intro q; cases q)
    cases hit with
    | false => exact ih (no rfl)
    | true =>
      refine codeAny_handlers_suite (again fun h4 o4 v4 inv4 g1 g2 g3 => ?_)
      refine wpAny_mono ((sr a o4 cls dd (X.pn ++ pins) g2 ⟨_, g3⟩).run [] _ _ H _ (inv4.suite g1 g3 fresh off1 off2) (yes rfl a fresh)) (fun fl s6 sp => ?_) (fun _ _ z => z.elim)
      cases fl with
      | ret u => obtain ⟨v6, σ6, H6, inv6, rv, qv⟩ := sp; exact ⟨_, _, _, inv6.unsuite ok, rv, qv⟩
      | next => obtain ⟨σ6, H6, inv6, qv⟩ := sp; exact ⟨_, _, inv6.unsuite ok, qv⟩
      | brk => obtain ⟨σ6, H6, inv6, qv⟩ := sp; exact ⟨_, _, inv6.unsuite ok, qv⟩
      | cont => obtain ⟨σ6, H6, inv6, qv⟩ := sp; exact ⟨_, _, inv6.unsuite ok, qv⟩
theorem ps_clauses (own : X.stack = X.env :: X.outer) (loc : X.env.frame = some X.env.locals) (ndp : X.N.Nodup) (pass : Takes X Wo)
    (hb : ∀ (W : WX) (pn : List (Addr × Obj)) (xe : Value → Shared → Prop), Takes (X.tr pn xe) W → PassesOwn (model X.prog X.w) X.A X.env xe → PSs (X.tr pn xe) body (tb W))
    (cl : Clauses X (h0 :: hs) f) : PS X (.Try body (h0 :: hs) [] [] pos) (fun D σ H => tb (f Wo D) D σ H) := by
  refine ⟨fun pins s σ H D inv h => ?_⟩
  have ok := inv.ok
  have frm : X.A.frames = some (X.env :: X.outer) := by rw [ok.frames, own]
  let way : Value → Shared → Prop := fun e s1 => wpAny (model X.prog X.w) X.A (noteFrame e X.env) (fun _ s2 => wpAny (model X.prog X.w) X.A (setFlight e none) (fun _ s3 =>
    wpAny (model X.prog X.w) X.A (handleBy e X.env (h0 :: hs)) (SP X pins D) X.xe s3) X.xe s2) X.xe s1
  have takes : Takes (X.tr (X.pn ++ pins) way) (f Wo D) := by
    rintro u s' ⟨a, B, sI, pn', σ', H', cls, dd, rfl, inv', apart, rise, sky, fresh, oss, bare, w⟩
    have inv2 : Inv X pins σ' H' sI := inv'.ofTry ok
    have sky2 : Sky B (X.env :: X.outer) a (Zc cls dd) X.env.locals s'.heap := by rw [← own]; exact sky
    show wpAny (model X.prog X.w) X.A (noteFrame (.ref a) X.env) _ _ _
    exact Sky.land Zc.steady frm loc sky2 fun h3 fl3 up3 => clauses_run (sh := { s' with heap := h3 }) ok own loc ndp pass inv2 apart (rise.trans up3) oss bare fresh fl3 cl w
  refine wpAny_Try_except (wpAny_mono ((hb (f Wo D) (X.pn ++ pins) way takes PassesOwn.looking).run [] s σ H D (inv.toTry _) h) (fun fl s1 sp => ?_) (fun _ _ he => he))
  cases fl with
  | ret u => obtain ⟨v, σ', H', inv', rv, qv⟩ := sp; exact ⟨v, σ', H', inv'.ofTry ok, rv, qv⟩
  | next => obtain ⟨σ', H', inv', qv⟩ := sp; exact wpAny_execs_nil ⟨σ', H', inv'.ofTry ok, qv⟩
  | brk => obtain ⟨σ', H', inv', qv⟩ := sp; exact ⟨σ', H', inv'.ofTry ok, qv⟩
  | cont => obtain ⟨σ', H', inv', qv⟩ := sp; exact ⟨σ', H', inv'.ofTry ok, qv⟩
end
end DL
set_option Elab.async false
set_option linter.all false
set_option maxRecDepth 100000
set_option maxHeartbeats 4000000
namespace DL
open PySem PySem.Spec PyProof.Rows L2
/-! ### raise C("..") of an own error without fields; several clauses that return tuples -/
def sRaise0 (C : Addr) : Sw := fun D ρ => D.xx ⟨.ref C, [], []⟩ ρ
theorem ds_raise0 {X : Cx} {W : WX} {x m : Str} {C : Addr} {j : Nat} {p p2 pos pos2 : Pos} (hc : X.calm = true) (tk : Takes X W)
    (q : PySem.W.excIn X.K C [.type "ValueError", .type "Exception", .type "BaseException", .type "object"] "ValueError.__new__" = true) (gC : X.mg x = some (.ref C)) (kC : PySem.W.keepIn X.K (.ref C) = true)
    (eC : PySem.W.subIn X.K (.ref C) (.type "BaseException") = some true) (tC : PySem.W.typeIn X.K (.ref C) = some (.type "type")) (hg : Gl X x) (hdb : (x == ("__debug__" : Str)) = false := by decide) :
    DS X W (.Raise (some (.Call (.Name x p) [.Constant (.str m) j p2] [] pos)) none pos2) (sRaise0 C) :=
  ⟨_, ps_raise hc tk (pmk_own PySem.F.excBase_ValueError q gC kC (raises_own eC tC) hg hdb), fun σ H Z ρ D DD s w fit => fit.xx σ ⟨.ref C, [], []⟩ (.ref C) none ρ Z H w ⟨s, ⟨rfl, rfl, rfl, rfl⟩, Step.refl _ _ _⟩⟩
structure Hnd where
  slot : Option Nat
  C : Addr
  g : XD → Option (List D)
def hset (o : Option Nat) (a : Addr) (ρ : Env) : Env := match o with
  | some i => ρ.set i (some (.cv (.ref a)))
  | none => ρ
def tryXs : List Hnd → (D → Env → Prop) → XD → Env → Prop
  | [], _, _, _ => False
  | h :: r, rt, x, ρ => (x.cls = .ref h.C ∧ ∃ ds, h.g x = some ds ∧ ds.length ≤ sizeLine ∧ ∀ a, rt (.tup ds) (hset h.slot a ρ)) ∨ tryXs r rt x ρ
theorem tryXs_cls : ∀ {l : List Hnd} {rt : D → Env → Prop} {x : XD} {ρ : Env}, tryXs l rt x ρ → ∃ h ∈ l, x.cls = .ref h.C
  | h :: r, rt, x, ρ, .inl w => ⟨h, List.mem_cons_self .., w.1⟩
  | h :: r, rt, x, ρ, .inr w => by
    obtain ⟨k, hk, e⟩ := tryXs_cls w
    exact ⟨k, List.mem_cons_of_mem _ hk, e⟩
def sTryM (l : List Hnd) (wb : Sw) : Sw := fun D ρ => wb { D with xx := tryXs l D.rt } ρ
/-- constants, wherever they stand -/
def XPk (K : PySem.W.Frag) (es : List Expr) (r : List D) : Prop := ∃ t : TA, (∀ X' : Cx, PA X' es t) ∧ owns r = [] ∧ ∀ (σ : L2.St) (H Z : Hp) (QQ : List V → Hp → Prop), (∀ vs, Reps K Z H r vs → QQ vs H) → t σ H QQ
theorem xpk_nil {K : PySem.W.Frag} : XPk K [] [] := ⟨tNil, fun _ => pa_nil, rfl, fun σ H Z QQ q => q [] rfl⟩
theorem xpk_cons {K : PySem.W.Frag} {e : Expr} {es : List Expr} {v : V} {d : D} {r : List D} (hp : ∀ X' : Cx, PE X' e (tC v)) (hs : ∀ X' : Cx, starEach (e :: es) X'.env = (false, eval e X'.env) :: starEach es X'.env) (hr : ∀ Z H, Rep K Z H d v) (ho : own d = []) (h : XPk K es r) : XPk K (e :: es) (d :: r) := by
  obtain ⟨t, p, o, q⟩ := h
  exact ⟨tCons (tC v) t, fun X' => pa_cons (hp X') (p X') (hs X'), by show own d ++ owns r = []; rw [ho, o]; rfl, fun σ H Z QQ qq => q σ H Z _ fun vs rv => qq (v :: vs) ⟨v, vs, rfl, hr Z H, rv⟩⟩
inductive HOk (X : Cx) : List ExceptHandler → List Hnd → Prop
  | nil : HOk X [] []
  | named {x n : Str} {C : Addr} {i kk : Nat} {g : XD → Option (List D)} {es : List Expr} {np pp rp tp : Pos} {hs : List ExceptHandler} {l : List Hnd} (kn : Names X x (.ref C)) (nm : X.N[i]? = some n) (kl : X.env.kindOf n = some .local)
      (te : PySem.W.exmOne X.K (.ref C) (.ref C) = some true) (tf : ∀ h ∈ l, PySem.W.exmOne X.K (.ref h.C) (.ref C) = some false) (hx : XPs X i C es g) (r : HOk X hs l) :
      HOk X (.ExceptHandler (some (.Name x np)) (some n) [.Return (some (.Tuple es kk tp)) rp] pp :: hs) (⟨some i, C, g⟩ :: l)
  | plain {x : Str} {C : Addr} {kk : Nat} {ds : List D} {es : List Expr} {np pp rp tp : Pos} {hs : List ExceptHandler} {l : List Hnd} (kn : Names X x (.ref C))
      (te : PySem.W.exmOne X.K (.ref C) (.ref C) = some true) (tf : ∀ h ∈ l, PySem.W.exmOne X.K (.ref h.C) (.ref C) = some false) (hx : XPk X.K es ds) (r : HOk X hs l) :
      HOk X (.ExceptHandler (some (.Name x np)) none [.Return (some (.Tuple es kk tp)) rp] pp :: hs) (⟨none, C, fun _ => some ds⟩ :: l)
theorem hok_clauses {X : Cx} {hs : List ExceptHandler} {l : List Hnd} (h : HOk X hs l) : ∃ f, Clauses X hs f ∧ ∀ (W Wo : WX) (Z H : Hp) (F : List Addr) (D : DEnds) (DD : Ends), Fit X.K X.N.length W Z H F D DD → ∀ (σ' : L2.St) (x : XD) (cls : Value) (dd : Option Addr) (ρ1 : Env) (Z1 H1 : Hp),
    tryXs l D.rt x ρ1 → OutX X.K X.N.length Z H F σ' Z1 H1 x cls dd ρ1 → f Wo DD cls dd σ' H1 := by
  induction h with
  | nil => exact ⟨_, .none, fun _ _ _ _ _ _ _ _ _ _ _ _ _ _ _ w => w.elim⟩
  | @named x n C i kk g es np pp rp tp hs l kn nm kl te tf hx r ih =>
    obtain ⟨f, cf, rf⟩ := ih
    obtain ⟨t, px⟩ := hx
    refine ⟨_, .named (ts := fun a cls d => tRet (tTup (t a cls d))) kn nm kl (fun a o k dd pn hz hf => pss_one (ps_ret (pe_tup ((px a k dd).1 o pn hz hf)))) cf, fun W Wo Z H F D DD fit σ' x' cls dd ρ1 Z1 H1 w o => ?_⟩
    rcases w with ⟨ec, ds, hg, hl, hrt⟩ | w
    · have ec2 : cls = .ref C := o.rep.1.symm.trans ec
      refine ⟨true, by rw [ec2]; exact te, fun _ a ha => ?_, fun h => nomatch h⟩
      have hil : i < ρ1.length := by rw [o.st.ln]; exact lt_of_get nm
      have hil2 : i < σ'.length := by rw [o.st.len]; exact hil
      have s2 : St X.K X.N.length Z1 H1 (σ'.set i (some (.ref a))) (ρ1.set i (some (.cv (.ref a)))) := o.st.store (d := .cv (.ref a)) (v := .ref a) rfl o.st.nd hil
      refine (px a cls dd).2 _ H1 Z1 x' ds o.st.sub (List.getElem?_set_self hil2) o.rep ec2 hg _ fun vs rvs ovs => ⟨by rw [rvs.length]; exact hl, fun p hp => ?_⟩
      have ot := out_tup s2 hp rvs ovs
      exact fit.rt _ _ _ _ _ _ (hrt a) ⟨ot.st, ot.rep, ot.nd, (o.step.sub fun b hb' => by
        rcases List.mem_append.mp (eo_store_sub (d := .cv (.ref a)) hil hb') with z | z
        · exact nomatch (show b ∈ ([] : List Addr) from z)
        · exact z).trans ot.step⟩
    · obtain ⟨k, hk, e⟩ := tryXs_cls w
      have ec2 : cls = .ref k.C := o.rep.1.symm.trans e
      exact ⟨false, by rw [ec2]; exact tf k hk, (fun h => nomatch h), fun _ => rf W Wo Z H F D DD fit σ' x' cls dd ρ1 Z1 H1 w o⟩
  | @plain x C kk ds es np pp rp tp hs l kn te tf hx r ih =>
    obtain ⟨f, cf, rf⟩ := ih
    obtain ⟨t, pt, od, rt⟩ := hx
    refine ⟨_, .plain (ts := fun a cls d => tRet (tTup t)) kn (fun a o k dd pn hz hf => pss_one (ps_ret (pe_tup (pt _)))) cf, fun W Wo Z H F D DD fit σ' x' cls dd ρ1 Z1 H1 w o => ?_⟩
    rcases w with ⟨ec, ds', hg, hl, hrt⟩ | w
    · have ec2 : cls = .ref C := o.rep.1.symm.trans ec
      refine ⟨true, by rw [ec2]; exact te, fun _ a ha => ?_, fun h => nomatch h⟩
      have e2 : ds = ds' := Option.some.inj hg
      subst e2
      refine rt _ H1 Z1 _ fun vs rvs => ⟨by rw [rvs.length]; exact hl, fun p hp => ?_⟩
      have ot := out_tup o.st hp rvs od
      exact fit.rt _ _ _ _ _ _ (hrt a) ⟨ot.st, ot.rep, ot.nd, o.step.trans ot.step⟩
    · obtain ⟨k, hk, e⟩ := tryXs_cls w
      have ec2 : cls = .ref k.C := o.rep.1.symm.trans e
      exact ⟨false, by rw [ec2]; exact tf k hk, (fun h => nomatch h), fun _ => rf W Wo Z H F D DD fit σ' x' cls dd ρ1 Z1 H1 w o⟩
theorem ds_try_many {X : Cx} {W : WX} {body : List Stmt} {wb : Sw} {h0 : ExceptHandler} {hs : List ExceptHandler} {l : List Hnd} {pos : Pos} (own : X.stack = X.env :: X.outer) (loc : X.env.frame = some X.env.locals) (hN : X.N.Nodup) (tk : Takes X W)
    (hb : ∀ (W' : WX) (pn : List (Addr × Obj)) (xe : Value → Shared → Prop), Takes (X.tr pn xe) W' → PassesOwn (model X.prog X.w) X.A X.env xe → DSs (X.tr pn xe) W' body wb)
    (hh : HOk X (h0 :: hs) l) : DS X W (.Try body (h0 :: hs) [] [] pos) (sTryM l wb) := by
  obtain ⟨f, cf, rf⟩ := hok_clauses hh
  let tb : WX → TS := fun W' D σ H => ∀ pn xe (tk : Takes (X.tr pn xe) W') (po : PassesOwn (model X.prog X.w) X.A X.env xe), Classical.choose (hb W' pn xe tk po).run D σ H
  refine ⟨_, ps_clauses (tb := tb) own loc hN tk (fun W' pn xe tk po => ⟨fun pins s σ H D I h => (Classical.choose_spec (hb W' pn xe tk po).run).1.run pins s σ H D I (h pn xe tk po)⟩) cf, fun σ H Z ρ D DD s w fit pn xe tk po => ?_⟩
  refine (Classical.choose_spec (hb _ pn xe tk po).run).2 σ H Z ρ _ DD s w ⟨fit.nx, fit.bk, fit.ct, fit.rt, fun σ' x cls dd ρ1 Z1 H1 wx o => ?_⟩
  exact rf W W Z H (eo ρ) D DD fit σ' x cls dd ρ1 Z1 H1 wx o
/-- the word -/
theorem ev_stryM {l : List Hnd} {w1 : Sw} {nx bk ct : Env → Prop} {rt : D → Env → Prop} {xx : QX} {ρ : Env} : Ev (sTryM l w1 ⟨nx, rt, bk, ct, xx⟩ ρ) = Ev (w1 ⟨nx, rt, bk, ct, tryXs l rt⟩ ρ) := rfl
theorem ev_raise0 {C : Addr} {nx bk ct : Env → Prop} {rt : D → Env → Prop} {xx : QX} {ρ : Env} : Ev (sRaise0 C ⟨nx, rt, bk, ct, xx⟩ ρ) = Ev (xx ⟨.ref C, [], []⟩ ρ) := rfl
theorem tryHit {h : Hnd} {l : List Hnd} {rt : D → Env → Prop} {x : XD} {ρ : Env} {ds : List D} (hc : x.cls = .ref h.C) (hg : h.g x = some ds) (hl : ds.length ≤ 100000) (q : ∀ a, Ev (rt (.tup ds) (hset h.slot a ρ))) : Ev (tryXs (h :: l) rt x ρ) := .inl ⟨hc, ds, hg, size_le hl, q⟩
theorem tryMiss {h : Hnd} {l : List Hnd} {rt : D → Env → Prop} {x : XD} {ρ : Env} (q : Ev (tryXs l rt x ρ)) : Ev (tryXs (h :: l) rt x ρ) := .inr q
end DL
set_option Elab.async false
set_option linter.all false
set_option maxRecDepth 100000
set_option maxHeartbeats 4000000
namespace DL
open PySem PySem.Spec PyProof.Rows L2
/-! ### in, not in; extend; zip; a op b op c as a value -/
section
variable {X : Cx} {W : WX} {a b c e o tg : Expr} {wa wb we : Ew} {wp wq wr : Pw} {wl : Lw} {ws : Aw} {p pos apos cpos tpos : Pos} {elts : List Expr} {kk : Nat}
/-- x in y of ints, of texts -/
def memD (x : D) (l : List D) (R : Bool → Prop) : Prop := (∃ (i : Int) (ns : List Int), x = .int i ∧ l = ns.map .int ∧ R (decide (i ∈ ns))) ∨ (∃ (s : Str) (ss : List Str), x = .str s ∧ l = ss.map .str ∧ R (decide (s ∈ ss)))
def rdIn : RD := fun x y Q => ∃ l, seqD y = some l ∧ memD x l fun k => Q (.bl k)
def rdNotIn : RD := fun x y Q => ∃ l, seqD y = some l ∧ memD x l fun k => Q (.bl (!k))
theorem reps_ints_eq {K : PySem.W.Frag} {Z H : Hp} : ∀ {ns : List Int} {vs : List V}, Reps K Z H (ns.map .int) vs → vs = ns.map .int
  | [], vs, h => h
  | n :: ns, vs, h => by
    obtain ⟨v, vr, e, r1, r2⟩ := h
    rw [e, show v = .int n from r1, reps_ints_eq r2]; rfl
theorem reps_strs_eq {K : PySem.W.Frag} {Z H : Hp} : ∀ {ns : List Str} {vs : List V}, Reps K Z H (ns.map .str) vs → vs = ns.map .str
  | [], vs, h => h
  | n :: ns, vs, h => by
    obtain ⟨v, vr, e, r1, r2⟩ := h
    rw [e, show v = .str n from r1, reps_strs_eq r2]; rfl
theorem inV_int (i : Int) : ∀ ns : List Int, inV (.int i) (ns.map V.int) = decide (i ∈ ns)
  | [] => rfl
  | n :: ns => by
    show (eqV (.int n) (.int i) || inV (.int i) (ns.map V.int)) = _
    rw [inV_int i ns]
    show ((n == i) || decide (i ∈ ns)) = decide (i ∈ n :: ns)
    by_cases h : n = i
    · subst h; simp
    · have h2 : ¬ i = n := fun z => h z.symm
      simp [h, h2]
theorem inV_str (i : Str) : ∀ ns : List Str, inV (.str i) (ns.map V.str) = decide (i ∈ ns)
  | [] => rfl
  | n :: ns => by
    show (eqV (.str n) (.str i) || inV (.str i) (ns.map V.str)) = _
    rw [inV_str i ns]
    show ((n == i) || decide (i ∈ ns)) = decide (i ∈ n :: ns)
    by_cases h : n = i
    · subst h; simp
    · have h2 : ¬ i = n := fun z => h z.symm
      simp [h, h2]
theorem memD_rep {K : PySem.W.Frag} {Z H : Hp} {x : D} {l : List D} {u : V} {vs : List V} {R : Bool → Prop} (h : memD x l R) (rx : Rep K Z H x u) (rl : Reps K Z H l vs) : flatV u = true ∧ vs.all flatV = true ∧ R (inV u vs) := by
  rcases h with ⟨i, ns, rfl, rfl, h⟩ | ⟨i, ns, rfl, rfl, h⟩
  · rw [reps_ints_eq rl, show u = .int i from rx, inV_int]
    exact ⟨rfl, by simp [flatV], h⟩
  · rw [reps_strs_eq rl, show u = .str i from rx, inV_str]
    exact ⟨rfl, by simp [flatV], h⟩
theorem dop_in : DOp X (compareOp .In) rdIn := by
  refine ⟨_, op_in_seq, fun Z H x y u v Q hz rx ry w QQ q => ?_⟩
  obtain ⟨l, hl, hm⟩ := w
  obtain ⟨a, vs, e, hs, hr⟩ := seqD_rep hz hl ry
  obtain ⟨f1, f2, f3⟩ := memD_rep hm rx hr
  exact ⟨a, vs, e, hs, f1, f2, q _ _ f3 rfl rfl⟩
theorem dop_notin : DOp X (compareOp .NotIn) rdNotIn := by
  refine ⟨_, op_notIn_seq, fun Z H x y u v Q hz rx ry w QQ q => ?_⟩
  obtain ⟨l, hl, hm⟩ := w
  obtain ⟨a, vs, e, hs, hr⟩ := seqD_rep hz hl ry
  obtain ⟨f1, f2, f3⟩ := memD_rep hm rx hr
  exact ⟨a, vs, e, hs, f1, f2, q _ _ f3 rfl rfl⟩
/-- xs.extend(e), e a list of what nobody owns -/
def eExt (wl : Lw) (we : Ew) : Ew := fun ρ Q Qx => wl ρ fun p d => match d with
  | .lst (some a) _ => we ρ (fun y ρ1 => match y, getP ρ1 p with
    | .lst m r, some (.lst (some b) l) => b = a ∧ owns r = [] ∧ l.length + r.length ≤ sizeLine ∧ Q .non (setP ρ1 p (.lst (some b) (l ++ r)))
    | _, _ => False) Qx
  | _ => False
theorem de_extend (ho : DPath X o wl) (he : DE X W e we) (hbase : attributeBase o "extend" X.env (eval o X.env) = eval o X.env := by rfl)
    (hfew : ((backTo cpos (starEach (e :: []) X.env)).all (fun x => !x.1) && (backToKw cpos (keywordEach [] X.env)).all (fun x => x.1.isSome) && decide ((e :: []).length + ([] : List Keyword).length + (if ([] : List Keyword).isEmpty then 0 else 1) < 30)) = true := by rfl)
    (hline : (apos.endLine == cpos.line) = true := by rfl) (hs : starEach (e :: []) X.env = (false, eval e X.env) :: starEach [] X.env := by rfl) (hplain : (backTo cpos (starEach [] X.env)).any (·.1) = false := by rfl) :
    DE X W (.Call (.Attribute o "extend" apos) [e] [] cpos) (eExt wl we) := by
  obtain ⟨to, po', ro⟩ := ho
  obtain ⟨te, pe', re⟩ := he
  refine ⟨_, pe_bm PySem.F.plainAttrs_list PySem.F.slot_list_extend PySem.F.type_list_extend mt_extend po' (pa_cons pe' pa_nil hs) hbase hfew hline hs hplain, fun σ H Z ρ Q Qx s w fx QQ q => ?_⟩
  refine ro σ H Z ρ _ s w _ fun v p d wd hg rd => ?_
  cases d with
  | lst m l0 => cases m with
    | none => exact wd.elim
    | some a =>
      obtain ⟨ev, za, vs0, hv0, _⟩ := rd
      refine ⟨by rw [ev]; exact .inl ⟨rfl, vs0, SqL.of hv0⟩, ?_⟩
      refine re σ H Z ρ _ Qx s wd fx _ fun u y ρ1 Z1 H1 w1 o1 => ?_
      split at w1
      · rename_i m r b l hg1
        obtain ⟨hba, hn, hl, w1⟩ := w1
        subst hba
        obtain ⟨za1, ⟨vs, hv, hr⟩, na1, na2, pm, re'⟩ := o1.st.relist hg1
        have ndo := List.nodup_append.mp o1.nd
        have hbin : b ∈ eo ρ1 := pm.mem_iff.mpr (List.mem_cons_self ..)
        obtain ⟨pa, zs, eu, hz, hrz⟩ := lst_read o1.st.sub o1.rep
        have nn := pm.nodup_iff.mp o1.st.nd
        have nd2 : (b :: owns (l ++ r) ++ eo (setP ρ1 p (lent b))).Nodup := by
          rw [owns_append, hn, List.append_nil]; exact nn
        obtain ⟨s2, pm2⟩ := re' (l ++ r) (vs ++ zs) ((hr.upd_out na1).append (Reps.sh (Sub.refl _) hn hrz)) nd2
        refine ⟨b, pa, vs, zs, ev, by rw [eu], hv, hz, by rw [hr.length, hrz.length]; exact hl, ?_⟩
        refine q .non .non _ Z1 _ w1 ⟨s2, rfl, s2.nd, ?_⟩
        refine o1.step.trans (step_upd (List.mem_append_right _ hbin) fun c hc => .inl ?_)
        have hc' : c ∈ eo (setP ρ1 p (.lst (some b) (l ++ r))) := hc
        have hm := pm2.mem_iff.mp hc'
        rw [owns_append, hn, List.append_nil] at hm
        exact List.mem_append_right _ (pm.mem_iff.mpr hm)
      · exact w1.elim
  | _ => exact wd.elim
/-- xs * n, xs as it stands, n a pure one -/
def eRepP (wp wq : Pw) : Ew := fun ρ Q _ => wp ρ fun x => match x with
  | .lst _ l => owns l = [] ∧ wq ρ fun y => match y with
    | .int k => -(2 ^ 63) ≤ k ∧ k < 2 ^ 63 ∧ l.length * k.toNat ≤ sizeLine ∧ ∀ p, Q (.lst (some p) (List.replicate k.toNat l).flatten) ρ
    | _ => False
  | _ => False
theorem de_repP (ha : DP X a wp) (hb : DP X b wq) : DE X W (.BinOp a .Mult b pos) (eRepP wp wq) := by
  obtain ⟨ta, pa, ra⟩ := ha
  obtain ⟨tb, pb, rb⟩ := hb
  refine ⟨_, pe_op op_rep pa pb, fun σ H Z ρ Q Qx s w fx QQ q => ?_⟩
  refine ra σ H Z ρ _ s w _ fun u x wx rx => ?_
  cases x with
  | lst m l =>
    obtain ⟨nl, wx⟩ := wx
    refine rb σ H Z ρ _ s wx _ fun v y wy ry => ?_
    cases y with
    | int k =>
      obtain ⟨b1, b2, b3, b4⟩ := wy
      obtain ⟨a1, vs, e1, hv, hr⟩ := lst_read s.sub rx
      refine ⟨a1, k, vs, e1, ry, hv, b1, b2, by rw [hr.length]; exact b3, fun p hp => ?_⟩
      exact q _ _ ρ _ _ (b4 p) (out_new s hp (hr.rep _) (owns_rep nl _))
    | _ => exact wy.elim
  | _ => exact wx.elim
/-- a op b op c as a value -/
def pChain (r r' : RD) (wp wq wr : Pw) : Pw := fun ρ Q => wp ρ fun x => wq ρ fun y => r x y fun z => match z with
  | .bl k => if k = true then wr ρ fun u => r' y u Q else Q (.bl false)
  | _ => False
theorem dp_chain {o o' : CmpOp} {r r' : RD} (h : DOp X (compareOp o) r) (h' : DOp X (compareOp o') r') (ha : DP X a wp) (hb : DP X b wq) (hc : DP X c wr) (hm : lastMarks [o, o'] [b, c] = false := by with_unfolding_all rfl) : DP X (.Compare a [o, o'] [b, c] pos) (pChain r r' wp wq wr) := by
  obtain ⟨t, ht, hd⟩ := h
  obtain ⟨t', ht', hd'⟩ := h'
  obtain ⟨ta, pa, ra⟩ := ha
  obtain ⟨tb, pb, rb⟩ := hb
  obtain ⟨tc, pc, rc⟩ := hc
  refine ⟨_, pe_chain ht ht' pa pb pc hm, fun σ H Z ρ Q s w QQ q => ?_⟩
  refine ra σ H Z ρ _ s w _ fun u x wx rx => ?_
  refine rb σ H Z ρ _ s wx _ fun v y wy ry => ?_
  refine hd Z H x y u v _ s.sub rx ry wy _ fun z d hq hr _ => ?_
  cases d with
  | bl k =>
    refine ⟨k, hr, ?_⟩
    cases k with
    | true =>
      refine rc σ H Z ρ _ s hq _ fun u' x' wx' rx' => ?_
      exact hd' Z H y x' v u' _ s.sub ry rx' wx' _ fun z' d' hq' hr' _ => q z' d' hq' hr'
    | false => exact q (.bl false) (.bl false) hq rfl
  | _ => exact hq.elim
/-- zip of two tuples, of two lists that nobody owns -/
def zipD (l r : List D) : List D := List.zipWith (fun d e => .tup [d, e]) l r
theorem zipD_get {l r : List D} {i : Nat} {d : D} (h : (zipD l r)[i]? = some d) : ∃ x y, l[i]? = some x ∧ r[i]? = some y ∧ d = .tup [x, y] := by
  unfold zipD at h
  rw [List.getElem?_zipWith] at h
  cases h1 : l[i]? with
  | none => rw [h1] at h; cases h
  | some x =>
    cases h2 : r[i]? with
    | none => rw [h1, h2] at h; cases h
    | some y => rw [h1, h2] at h; exact ⟨x, y, rfl, rfl, (Option.some.inj h).symm⟩
theorem own_pair {x y : D} (h1 : own x = []) (h2 : own y = []) : own (.tup [x, y]) = [] := by show own x ++ (own y ++ []) = []; rw [h1, h2]; rfl
theorem zipD_own {l r : List D} (h1 : owns l = []) (h2 : owns r = []) : owns (zipD l r) = [] := by
  rw [owns_nil]
  intro d hd
  obtain ⟨i, hi⟩ := List.getElem?_of_mem hd
  obtain ⟨x, y, e1, e2, rfl⟩ := zipD_get hi
  exact own_pair (owns_nil.mp h1 x (List.mem_of_getElem? e1)) (owns_nil.mp h2 y (List.mem_of_getElem? e2))
theorem zipD_none {l r : List D} {i : Nat} (h : (zipD l r)[i]? = none) : l.length ≤ i ∨ r.length ≤ i := by
  unfold zipD at h
  rw [List.getElem?_eq_none_iff, List.length_zipWith] at h
  omega
def iZip2 (ws : Aw) : Iw := fun ρ Q Qx => ws ρ (fun as ρ1 => match as with
  | [.val (.tup l), .val (.tup r)] => owns l = [] ∧ owns r = [] ∧ Q (zipD l r) ρ1
  | [.val (.lst none l), .val (.lst none r)] => owns l = [] ∧ owns r = [] ∧ Q (zipD l r) ρ1
  | _ => False) Qx
theorem pair_item {K : PySem.W.Frag} {Z1 H1 : Hp} {T : Addr} {x y : D} {v u : V} (hs : Sub Z1 H1) (hT : H1 T = none) (r : Rep K Z1 H1 x v) (n : own x = []) (r2 : Rep K Z1 H1 y u) (n2 : own y = []) :
    Rep K (upd Z1 T (.tup [v, u])) (upd H1 T (.tup [v, u])) (.tup [x, y]) (.ref T) ∧ Sub (upd Z1 T (.tup [v, u])) (upd H1 T (.tup [v, u])) ∧ Sub Z1 (upd Z1 T (.tup [v, u])) ∧ Sub H1 (upd H1 T (.tup [v, u])) ∧ ∀ a, Z1 a = none → (upd Z1 T (.tup [v, u])) a ≠ none → H1 a = none := by
  have zT : Z1 T = none := by
    cases e : Z1 T with
    | none => rfl
    | some w => rw [hs T w e] at hT; cases hT
  refine ⟨⟨own_pair n n2, T, _, rfl, SqT.of upd_same, v, [u], rfl, Rep.sh (upd_sub zT) n r, Reps.one (Rep.sh (upd_sub zT) n2 r2)⟩, fun a w e => ?_, upd_sub zT, upd_sub hT, fun a z z' => ?_⟩
  · by_cases h : a = T
    · subst h; rw [upd_same] at e ⊢; exact e
    · rw [upd_ne h] at e ⊢; exact hs a w e
  · by_cases h : a = T
    · rw [h]; exact hT
    · rw [upd_ne h] at z'; exact absurd z z'
theorem walk_zipT {K : PySem.W.Frag} {Z H : Hp} {p q : Addr} {vs us : List V} {l r : List D} (hs : SqT K Z p vs) (hr : Reps K Z H l vs) (n : owns l = []) (hs2 : SqT K Z q us) (hr2 : Reps K Z H r us) (n2 : owns r = []) : Walk K Z (RZ.ItzT K p q) (zipD l r) := by
  refine ⟨zipD_own n n2, fun Z1 H1 hz hh i => ⟨fun d hd => ?_, fun hd => ?_⟩⟩
  · obtain ⟨x, y, e1, e2, rfl⟩ := zipD_get hd
    obtain ⟨v, h1, h2⟩ := hr.get e1
    obtain ⟨u, h3, h4⟩ := hr2.get e2
    have hS := sub_t (hz.trans hh) hs
    have hS2 := sub_t (hz.trans hh) hs2
    refine ⟨⟨vs, us, v, u, hS, hS2, h1, h3⟩, fun z H2 hy => ?_⟩
    obtain ⟨T, v', u', rfl, hT, rfl, g1, g2⟩ := hy
    have q1 : v' = v := Option.some.inj ((g1 vs hS).symm.trans h1)
    have q2 : u' = u := Option.some.inj ((g2 us hS2).symm.trans h3)
    subst q1 q2
    have nx := owns_nil.mp n x (List.mem_of_getElem? e1)
    have ny := owns_nil.mp n2 y (List.mem_of_getElem? e2)
    exact ⟨_, pair_item hh hT (Rep.sh (H' := H1) hz nx h2) nx (Rep.sh (H' := H1) hz ny h4) ny⟩
  · refine ⟨vs, us, sub_t (hz.trans hh) hs, sub_t (hz.trans hh) hs2, ?_⟩
    rw [hr.length, hr2.length]; exact zipD_none hd
theorem walk_zipL {K : PySem.W.Frag} {Z H : Hp} {p q : Addr} {vs us : List V} {l r : List D} (hs : SqL K Z p vs) (hr : Reps K Z H l vs) (n : owns l = []) (hs2 : SqL K Z q us) (hr2 : Reps K Z H r us) (n2 : owns r = []) : Walk K Z (Itz K p q) (zipD l r) := by
  refine ⟨zipD_own n n2, fun Z1 H1 hz hh i => ⟨fun d hd => ?_, fun hd => ?_⟩⟩
  · obtain ⟨x, y, e1, e2, rfl⟩ := zipD_get hd
    obtain ⟨v, h1, h2⟩ := hr.get e1
    obtain ⟨u, h3, h4⟩ := hr2.get e2
    have hS := sub_l (hz.trans hh) hs
    have hS2 := sub_l (hz.trans hh) hs2
    refine ⟨⟨vs, us, v, u, hS, hS2, h1, h3⟩, fun z H2 hy => ?_⟩
    obtain ⟨T, v', u', rfl, hT, rfl, g1, g2⟩ := hy
    have q1 : v' = v := Option.some.inj ((g1 vs hS).symm.trans h1)
    have q2 : u' = u := Option.some.inj ((g2 us hS2).symm.trans h3)
    subst q1 q2
    have nx := owns_nil.mp n x (List.mem_of_getElem? e1)
    have ny := owns_nil.mp n2 y (List.mem_of_getElem? e2)
    exact ⟨_, pair_item hh hT (Rep.sh (H' := H1) hz nx h2) nx (Rep.sh (H' := H1) hz ny h4) ny⟩
  · refine ⟨vs, us, sub_l (hz.trans hh) hs, sub_l (hz.trans hh) hs2, ?_⟩
    rw [hr.length, hr2.length]; exact zipD_none hd
theorem di_zip2 {ws : Aw} (h : DA X W [a, b] ws) (hg : Gl X "zip") (hm : X.mg "zip" = none) (hs : starEach [a, b] X.env = (false, eval a X.env) :: starEach [b] X.env := by rfl) (hpl : (backTo pos (starEach [b] X.env)).any (·.1) = false := by rfl) :
    DI X W (.Tuple elts kk tpos) (.Call (.Name "zip" p) [a, b] [] pos) (iZip2 ws) := by
  obtain ⟨t, pa, ra⟩ := h
  refine ⟨_, RZ.pi_zipA hg hm pa hs hpl, fun σ H Z ρ Q Qx s w fx R q => ?_⟩
  refine ra σ H Z ρ _ Qx s w fx _ fun vs as ρ1 Z1 H1 wx o => ?_
  split at wx
  · rename_i l r
    obtain ⟨n1, n2, wx⟩ := wx
    obtain ⟨v, vr, e, r1, u, ur, e2, r2, e3⟩ := o.rep
    obtain ⟨_, pa1, vs1, f1, hs1, hr1⟩ := id r1
    obtain ⟨_, pa2, vs2, f2, hs2, hr2⟩ := id r2
    have e4 : ur = [] := e3
    refine ⟨pa1, pa2, vs1, vs2, by rw [e, e2, e4, f1, f2], .inr ⟨sub_t o.st.sub hs1, sub_t o.st.sub hs2, q _ ρ1 Z1 H1 _ wx ⟨o.st, o.step.sub fun a ha => List.mem_append_right _ ha⟩ (walk_zipT hs1 hr1 n1 hs2 hr2 n2)⟩⟩
  · rename_i l r
    obtain ⟨n1, n2, wx⟩ := wx
    obtain ⟨v, vr, e, r1, u, ur, e2, r2, e3⟩ := o.rep
    obtain ⟨_, pa1, vs1, f1, hs1, hr1⟩ := id r1
    obtain ⟨_, pa2, vs2, f2, hs2, hr2⟩ := id r2
    have e4 : ur = [] := e3
    refine ⟨pa1, pa2, vs1, vs2, by rw [e, e2, e4, f1, f2], .inl ⟨SqL.of (o.st.sub _ _ hs1), SqL.of (o.st.sub _ _ hs2), q _ ρ1 Z1 H1 _ wx ⟨o.st, o.step.sub fun a ha => List.mem_append_right _ ha⟩ (walk_zipL (SqL.of hs1) hr1 n1 (SqL.of hs2) hr2 n2)⟩⟩
  · exact wx.elim
end
end DL
set_option Elab.async false
set_option linter.all false
set_option maxRecDepth 100000
namespace DL
open PySem PySem.Spec PyProof.Rows L2
def ExtQ (we : Ew) (Q : D → Env → Prop) (Qx : QX) (ρ : Env) (p : Path) (d : D) : Prop := match d with
  | .lst (some a) _ => we ρ (fun y ρ1 => match y, getP ρ1 p with
    | .lst m r, some (.lst (some b) l) => b = a ∧ owns r = [] ∧ l.length + r.length ≤ sizeLine ∧ Q .non (setP ρ1 p (.lst (some b) (l ++ r)))
    | _, _ => False) Qx
  | _ => False
def ExtQ2 (p : Path) (a : Addr) (Q : D → Env → Prop) (y : D) (ρ1 : Env) : Prop := match y, getP ρ1 p with
    | .lst m r, some (.lst (some b) l) => b = a ∧ owns r = [] ∧ l.length + r.length ≤ sizeLine ∧ Q .non (setP ρ1 p (.lst (some b) (l ++ r)))
    | _, _ => False
def ZipQ (Q : List D → Env → Prop) (as : List Arg) (ρ1 : Env) : Prop := match as with
  | [.val (.tup l), .val (.tup r)] => owns l = [] ∧ owns r = [] ∧ Q (zipD l r) ρ1
  | [.val (.lst none l), .val (.lst none r)] => owns l = [] ∧ owns r = [] ∧ Q (zipD l r) ρ1
  | _ => False
def PChQ (r' : RD) (wr : Pw) (y : D) (ρ : Env) (R : D → Prop) (z : D) : Prop := match z with
  | .bl k => IfB k (wr ρ fun u => r' y u R) (R (.bl false))
  | _ => False
def RepPQ (wq : Pw) (Q : D → Env → Prop) (ρ : Env) (x : D) : Prop := match x with
  | .lst _ l => owns l = [] ∧ wq ρ fun y => match y with
    | .int k => -(2 ^ 63) ≤ k ∧ k < 2 ^ 63 ∧ l.length * k.toNat ≤ sizeLine ∧ ∀ p, Q (.lst (some p) (List.replicate k.toNat l).flatten) ρ
    | _ => False
  | _ => False
section
variable {o0 o1 o2 o3 o4 o5 o6 o7 o8 o9 o10 o11 o12 o13 o14 o15 o16 o17 o18 o19 o20 o21 o22 o23 o24 o25 o26 o27 o28 o29 o30 oo : Option D}
variable {wa wb wp wq wr : Pw} {we wf : Ew} {wt wu : Tw} {ws : Aw} {wi : Iw} {wl : Lw} {g : Gw} {gs : List D → Env → (Env → Prop) → Prop} {ρ : Env} {x y z d e : D} {i j n : Int} {k m : Nat} {l r ds : List D} {as : List Arg} {Q : D → Env → Prop} {QB : Bool → Env → Prop} {QA : List Arg → Env → Prop} {QI : List D → Env → Prop} {QE : Env → Prop} {Qx : QX} {R : D → Prop} {RB : Bool → Prop} {RO : Option Int → Prop} {RL : List D → Prop} {RE : List D → Env → Prop} {D0 : DEnds} {w1 w2 : Sw} {dsp : DSp} {rd : RD} {rdl : List D → (D → Prop) → Prop} {gg : Int → Int → D} {g2 : Int → Int → Int} {C : Int → Int → Prop} {A B : Prop} {b : Bool} {p : Prop} {a : Addr} {ma : Option Addr} {s t : Str} {nx ct bk : Env → Prop} {rt : D → Env → Prop} {xx : QX} {is : List Int} {pt : Path} {lo hi : Option Pw} {vs : List Nat} {ff : Nat → D → D}
theorem ev_rdAny : ∀ {bs : List Bool}, Ev (rdAny [.lst none (bs.map .bl)] R) = Ev (R (.bl (bs.any id))) := by intro bs; show (match blsOf (bs.map .bl) with | some ns => R (.bl (ns.any id)) | none => False) = _; rw [blsOf_map]; rfl
theorem ev_rdAll : ∀ {bs : List Bool}, Ev (rdAll [.lst none (bs.map .bl)] R) = Ev (R (.bl (bs.all id))) := by intro bs; show (match blsOf (bs.map .bl) with | some ns => R (.bl (ns.all id)) | none => False) = _; rw [blsOf_map]; rfl
theorem ev_rdSum : Ev (rdSum [.lst none (is.map .int)] R) = Ev (R (.int is.sum)) := by show (match intsOf (is.map .int) with | some ns => R (.int ns.sum) | none => False) = _; rw [intsOf_map]; rfl
theorem ev_rdMaxL : Ev (rdMaxL [.lst none (is.map .int)] R) = (0 < is.length ∧ ∀ m, m ∈ is → (∀ y, y ∈ is → y ≤ m) → Ev (R (.int m))) := by show (match intsOf (is.map .int) with | some ns => 0 < ns.length ∧ ∀ m, m ∈ ns → (∀ y, y ∈ ns → y ≤ m) → R (.int m) | none => False) = _; rw [intsOf_map]; rfl
theorem ev_rdMinL : Ev (rdMinL [.lst none (is.map .int)] R) = (0 < is.length ∧ ∀ m, m ∈ is → (∀ y, y ∈ is → m ≤ y) → Ev (R (.int m))) := by show (match intsOf (is.map .int) with | some ns => 0 < ns.length ∧ ∀ m, m ∈ ns → (∀ y, y ∈ ns → m ≤ y) → R (.int m) | none => False) = _; rw [intsOf_map]; rfl
theorem ev_ext : Ev (eExt wl we ρ Q Qx) = Ev (wl ρ (ExtQ we Q Qx ρ)) := rfl
theorem ev_extQ : Ev (ExtQ we Q Qx ρ pt (.lst (some a) l)) = Ev (we ρ (ExtQ2 pt a Q) Qx) := rfl
theorem ev_zip : Ev (iZip2 ws ρ QI Qx) = Ev (ws ρ (ZipQ QI) Qx) := rfl
theorem ev_zipT : Ev (ZipQ QI [.val (.tup l), .val (.tup r)] ρ) = Ev (OwsQ l (OwsQ r (QI (zipD l r) ρ))) := rfl
theorem ev_zipL : Ev (ZipQ QI [.val (.lst none l), .val (.lst none r)] ρ) = Ev (OwsQ l (OwsQ r (QI (zipD l r) ρ))) := rfl
theorem ev_pch : ∀ {r1 r2 : RD}, Ev (pChain r1 r2 wp wq wr ρ R) = Ev (wp ρ fun x => wq ρ fun y => r1 x y (PChQ r2 wr y ρ R)) := by intros; rfl
theorem ev_pchq : ∀ {r2 : RD}, Ev (PChQ r2 wr y ρ R (.bl b)) = Ev (IfB b (wr ρ fun u => r2 y u R) (R (.bl false))) := by intros; rfl
theorem ev_repP : Ev (eRepP wp wq ρ Q Qx) = Ev (wp ρ (RepPQ wq Q ρ)) := rfl
theorem ev_repPQ : Ev (RepPQ wq Q ρ (.lst ma l)) = Ev (OwsQ l (wq ρ fun y => RepQ2 l Q y ρ)) := rfl
theorem ev_ext2_0 : Ev (ExtQ2 (0, []) a Q (.lst ma r) (some (.lst (some a) l) :: ρ)) = Ev (OwsQ r (SzQ (l.length + r.length) (Q .non (some (.lst (some a) (l ++ r)) :: ρ)))) := propext ⟨fun h => h.2, fun h => ⟨rfl, h⟩⟩
theorem ev_ext2_1 : Ev (ExtQ2 (1, []) a Q (.lst ma r) (o0 :: some (.lst (some a) l) :: ρ)) = Ev (OwsQ r (SzQ (l.length + r.length) (Q .non (o0 :: some (.lst (some a) (l ++ r)) :: ρ)))) := propext ⟨fun h => h.2, fun h => ⟨rfl, h⟩⟩
theorem ev_ext2_2 : Ev (ExtQ2 (2, []) a Q (.lst ma r) (o0 :: o1 :: some (.lst (some a) l) :: ρ)) = Ev (OwsQ r (SzQ (l.length + r.length) (Q .non (o0 :: o1 :: some (.lst (some a) (l ++ r)) :: ρ)))) := propext ⟨fun h => h.2, fun h => ⟨rfl, h⟩⟩
theorem ev_ext2_3 : Ev (ExtQ2 (3, []) a Q (.lst ma r) (o0 :: o1 :: o2 :: some (.lst (some a) l) :: ρ)) = Ev (OwsQ r (SzQ (l.length + r.length) (Q .non (o0 :: o1 :: o2 :: some (.lst (some a) (l ++ r)) :: ρ)))) := propext ⟨fun h => h.2, fun h => ⟨rfl, h⟩⟩
theorem ev_ext2_4 : Ev (ExtQ2 (4, []) a Q (.lst ma r) (o0 :: o1 :: o2 :: o3 :: some (.lst (some a) l) :: ρ)) = Ev (OwsQ r (SzQ (l.length + r.length) (Q .non (o0 :: o1 :: o2 :: o3 :: some (.lst (some a) (l ++ r)) :: ρ)))) := propext ⟨fun h => h.2, fun h => ⟨rfl, h⟩⟩
theorem ev_ext2_5 : Ev (ExtQ2 (5, []) a Q (.lst ma r) (o0 :: o1 :: o2 :: o3 :: o4 :: some (.lst (some a) l) :: ρ)) = Ev (OwsQ r (SzQ (l.length + r.length) (Q .non (o0 :: o1 :: o2 :: o3 :: o4 :: some (.lst (some a) (l ++ r)) :: ρ)))) := propext ⟨fun h => h.2, fun h => ⟨rfl, h⟩⟩
theorem ev_ext2_6 : Ev (ExtQ2 (6, []) a Q (.lst ma r) (o0 :: o1 :: o2 :: o3 :: o4 :: o5 :: some (.lst (some a) l) :: ρ)) = Ev (OwsQ r (SzQ (l.length + r.length) (Q .non (o0 :: o1 :: o2 :: o3 :: o4 :: o5 :: some (.lst (some a) (l ++ r)) :: ρ)))) := propext ⟨fun h => h.2, fun h => ⟨rfl, h⟩⟩
theorem ev_ext2_7 : Ev (ExtQ2 (7, []) a Q (.lst ma r) (o0 :: o1 :: o2 :: o3 :: o4 :: o5 :: o6 :: some (.lst (some a) l) :: ρ)) = Ev (OwsQ r (SzQ (l.length + r.length) (Q .non (o0 :: o1 :: o2 :: o3 :: o4 :: o5 :: o6 :: some (.lst (some a) (l ++ r)) :: ρ)))) := propext ⟨fun h => h.2, fun h => ⟨rfl, h⟩⟩
theorem ev_ext2_8 : Ev (ExtQ2 (8, []) a Q (.lst ma r) (o0 :: o1 :: o2 :: o3 :: o4 :: o5 :: o6 :: o7 :: some (.lst (some a) l) :: ρ)) = Ev (OwsQ r (SzQ (l.length + r.length) (Q .non (o0 :: o1 :: o2 :: o3 :: o4 :: o5 :: o6 :: o7 :: some (.lst (some a) (l ++ r)) :: ρ)))) := propext ⟨fun h => h.2, fun h => ⟨rfl, h⟩⟩
theorem ev_ext2_9 : Ev (ExtQ2 (9, []) a Q (.lst ma r) (o0 :: o1 :: o2 :: o3 :: o4 :: o5 :: o6 :: o7 :: o8 :: some (.lst (some a) l) :: ρ)) = Ev (OwsQ r (SzQ (l.length + r.length) (Q .non (o0 :: o1 :: o2 :: o3 :: o4 :: o5 :: o6 :: o7 :: o8 :: some (.lst (some a) (l ++ r)) :: ρ)))) := propext ⟨fun h => h.2, fun h => ⟨rfl, h⟩⟩
theorem ev_ext2_10 : Ev (ExtQ2 (10, []) a Q (.lst ma r) (o0 :: o1 :: o2 :: o3 :: o4 :: o5 :: o6 :: o7 :: o8 :: o9 :: some (.lst (some a) l) :: ρ)) = Ev (OwsQ r (SzQ (l.length + r.length) (Q .non (o0 :: o1 :: o2 :: o3 :: o4 :: o5 :: o6 :: o7 :: o8 :: o9 :: some (.lst (some a) (l ++ r)) :: ρ)))) := propext ⟨fun h => h.2, fun h => ⟨rfl, h⟩⟩
theorem ev_ext2_11 : Ev (ExtQ2 (11, []) a Q (.lst ma r) (o0 :: o1 :: o2 :: o3 :: o4 :: o5 :: o6 :: o7 :: o8 :: o9 :: o10 :: some (.lst (some a) l) :: ρ)) = Ev (OwsQ r (SzQ (l.length + r.length) (Q .non (o0 :: o1 :: o2 :: o3 :: o4 :: o5 :: o6 :: o7 :: o8 :: o9 :: o10 :: some (.lst (some a) (l ++ r)) :: ρ)))) := propext ⟨fun h => h.2, fun h => ⟨rfl, h⟩⟩
theorem ev_ext2_12 : Ev (ExtQ2 (12, []) a Q (.lst ma r) (o0 :: o1 :: o2 :: o3 :: o4 :: o5 :: o6 :: o7 :: o8 :: o9 :: o10 :: o11 :: some (.lst (some a) l) :: ρ)) = Ev (OwsQ r (SzQ (l.length + r.length) (Q .non (o0 :: o1 :: o2 :: o3 :: o4 :: o5 :: o6 :: o7 :: o8 :: o9 :: o10 :: o11 :: some (.lst (some a) (l ++ r)) :: ρ)))) := propext ⟨fun h => h.2, fun h => ⟨rfl, h⟩⟩
theorem ev_ext2_13 : Ev (ExtQ2 (13, []) a Q (.lst ma r) (o0 :: o1 :: o2 :: o3 :: o4 :: o5 :: o6 :: o7 :: o8 :: o9 :: o10 :: o11 :: o12 :: some (.lst (some a) l) :: ρ)) = Ev (OwsQ r (SzQ (l.length + r.length) (Q .non (o0 :: o1 :: o2 :: o3 :: o4 :: o5 :: o6 :: o7 :: o8 :: o9 :: o10 :: o11 :: o12 :: some (.lst (some a) (l ++ r)) :: ρ)))) := propext ⟨fun h => h.2, fun h => ⟨rfl, h⟩⟩
theorem ev_ext2_14 : Ev (ExtQ2 (14, []) a Q (.lst ma r) (o0 :: o1 :: o2 :: o3 :: o4 :: o5 :: o6 :: o7 :: o8 :: o9 :: o10 :: o11 :: o12 :: o13 :: some (.lst (some a) l) :: ρ)) = Ev (OwsQ r (SzQ (l.length + r.length) (Q .non (o0 :: o1 :: o2 :: o3 :: o4 :: o5 :: o6 :: o7 :: o8 :: o9 :: o10 :: o11 :: o12 :: o13 :: some (.lst (some a) (l ++ r)) :: ρ)))) := propext ⟨fun h => h.2, fun h => ⟨rfl, h⟩⟩
theorem ev_ext2_15 : Ev (ExtQ2 (15, []) a Q (.lst ma r) (o0 :: o1 :: o2 :: o3 :: o4 :: o5 :: o6 :: o7 :: o8 :: o9 :: o10 :: o11 :: o12 :: o13 :: o14 :: some (.lst (some a) l) :: ρ)) = Ev (OwsQ r (SzQ (l.length + r.length) (Q .non (o0 :: o1 :: o2 :: o3 :: o4 :: o5 :: o6 :: o7 :: o8 :: o9 :: o10 :: o11 :: o12 :: o13 :: o14 :: some (.lst (some a) (l ++ r)) :: ρ)))) := propext ⟨fun h => h.2, fun h => ⟨rfl, h⟩⟩
theorem ev_ext2_16 : Ev (ExtQ2 (16, []) a Q (.lst ma r) (o0 :: o1 :: o2 :: o3 :: o4 :: o5 :: o6 :: o7 :: o8 :: o9 :: o10 :: o11 :: o12 :: o13 :: o14 :: o15 :: some (.lst (some a) l) :: ρ)) = Ev (OwsQ r (SzQ (l.length + r.length) (Q .non (o0 :: o1 :: o2 :: o3 :: o4 :: o5 :: o6 :: o7 :: o8 :: o9 :: o10 :: o11 :: o12 :: o13 :: o14 :: o15 :: some (.lst (some a) (l ++ r)) :: ρ)))) := propext ⟨fun h => h.2, fun h => ⟨rfl, h⟩⟩
theorem ev_ext2_17 : Ev (ExtQ2 (17, []) a Q (.lst ma r) (o0 :: o1 :: o2 :: o3 :: o4 :: o5 :: o6 :: o7 :: o8 :: o9 :: o10 :: o11 :: o12 :: o13 :: o14 :: o15 :: o16 :: some (.lst (some a) l) :: ρ)) = Ev (OwsQ r (SzQ (l.length + r.length) (Q .non (o0 :: o1 :: o2 :: o3 :: o4 :: o5 :: o6 :: o7 :: o8 :: o9 :: o10 :: o11 :: o12 :: o13 :: o14 :: o15 :: o16 :: some (.lst (some a) (l ++ r)) :: ρ)))) := propext ⟨fun h => h.2, fun h => ⟨rfl, h⟩⟩
theorem ev_ext2_18 : Ev (ExtQ2 (18, []) a Q (.lst ma r) (o0 :: o1 :: o2 :: o3 :: o4 :: o5 :: o6 :: o7 :: o8 :: o9 :: o10 :: o11 :: o12 :: o13 :: o14 :: o15 :: o16 :: o17 :: some (.lst (some a) l) :: ρ)) = Ev (OwsQ r (SzQ (l.length + r.length) (Q .non (o0 :: o1 :: o2 :: o3 :: o4 :: o5 :: o6 :: o7 :: o8 :: o9 :: o10 :: o11 :: o12 :: o13 :: o14 :: o15 :: o16 :: o17 :: some (.lst (some a) (l ++ r)) :: ρ)))) := propext ⟨fun h => h.2, fun h => ⟨rfl, h⟩⟩
theorem ev_ext2_19 : Ev (ExtQ2 (19, []) a Q (.lst ma r) (o0 :: o1 :: o2 :: o3 :: o4 :: o5 :: o6 :: o7 :: o8 :: o9 :: o10 :: o11 :: o12 :: o13 :: o14 :: o15 :: o16 :: o17 :: o18 :: some (.lst (some a) l) :: ρ)) = Ev (OwsQ r (SzQ (l.length + r.length) (Q .non (o0 :: o1 :: o2 :: o3 :: o4 :: o5 :: o6 :: o7 :: o8 :: o9 :: o10 :: o11 :: o12 :: o13 :: o14 :: o15 :: o16 :: o17 :: o18 :: some (.lst (some a) (l ++ r)) :: ρ)))) := propext ⟨fun h => h.2, fun h => ⟨rfl, h⟩⟩
theorem ev_ext2_20 : Ev (ExtQ2 (20, []) a Q (.lst ma r) (o0 :: o1 :: o2 :: o3 :: o4 :: o5 :: o6 :: o7 :: o8 :: o9 :: o10 :: o11 :: o12 :: o13 :: o14 :: o15 :: o16 :: o17 :: o18 :: o19 :: some (.lst (some a) l) :: ρ)) = Ev (OwsQ r (SzQ (l.length + r.length) (Q .non (o0 :: o1 :: o2 :: o3 :: o4 :: o5 :: o6 :: o7 :: o8 :: o9 :: o10 :: o11 :: o12 :: o13 :: o14 :: o15 :: o16 :: o17 :: o18 :: o19 :: some (.lst (some a) (l ++ r)) :: ρ)))) := propext ⟨fun h => h.2, fun h => ⟨rfl, h⟩⟩
theorem ev_ext2_21 : Ev (ExtQ2 (21, []) a Q (.lst ma r) (o0 :: o1 :: o2 :: o3 :: o4 :: o5 :: o6 :: o7 :: o8 :: o9 :: o10 :: o11 :: o12 :: o13 :: o14 :: o15 :: o16 :: o17 :: o18 :: o19 :: o20 :: some (.lst (some a) l) :: ρ)) = Ev (OwsQ r (SzQ (l.length + r.length) (Q .non (o0 :: o1 :: o2 :: o3 :: o4 :: o5 :: o6 :: o7 :: o8 :: o9 :: o10 :: o11 :: o12 :: o13 :: o14 :: o15 :: o16 :: o17 :: o18 :: o19 :: o20 :: some (.lst (some a) (l ++ r)) :: ρ)))) := propext ⟨fun h => h.2, fun h => ⟨rfl, h⟩⟩
theorem ev_ext2_22 : Ev (ExtQ2 (22, []) a Q (.lst ma r) (o0 :: o1 :: o2 :: o3 :: o4 :: o5 :: o6 :: o7 :: o8 :: o9 :: o10 :: o11 :: o12 :: o13 :: o14 :: o15 :: o16 :: o17 :: o18 :: o19 :: o20 :: o21 :: some (.lst (some a) l) :: ρ)) = Ev (OwsQ r (SzQ (l.length + r.length) (Q .non (o0 :: o1 :: o2 :: o3 :: o4 :: o5 :: o6 :: o7 :: o8 :: o9 :: o10 :: o11 :: o12 :: o13 :: o14 :: o15 :: o16 :: o17 :: o18 :: o19 :: o20 :: o21 :: some (.lst (some a) (l ++ r)) :: ρ)))) := propext ⟨fun h => h.2, fun h => ⟨rfl, h⟩⟩
theorem ev_ext2_23 : Ev (ExtQ2 (23, []) a Q (.lst ma r) (o0 :: o1 :: o2 :: o3 :: o4 :: o5 :: o6 :: o7 :: o8 :: o9 :: o10 :: o11 :: o12 :: o13 :: o14 :: o15 :: o16 :: o17 :: o18 :: o19 :: o20 :: o21 :: o22 :: some (.lst (some a) l) :: ρ)) = Ev (OwsQ r (SzQ (l.length + r.length) (Q .non (o0 :: o1 :: o2 :: o3 :: o4 :: o5 :: o6 :: o7 :: o8 :: o9 :: o10 :: o11 :: o12 :: o13 :: o14 :: o15 :: o16 :: o17 :: o18 :: o19 :: o20 :: o21 :: o22 :: some (.lst (some a) (l ++ r)) :: ρ)))) := propext ⟨fun h => h.2, fun h => ⟨rfl, h⟩⟩
theorem ev_ext2_24 : Ev (ExtQ2 (24, []) a Q (.lst ma r) (o0 :: o1 :: o2 :: o3 :: o4 :: o5 :: o6 :: o7 :: o8 :: o9 :: o10 :: o11 :: o12 :: o13 :: o14 :: o15 :: o16 :: o17 :: o18 :: o19 :: o20 :: o21 :: o22 :: o23 :: some (.lst (some a) l) :: ρ)) = Ev (OwsQ r (SzQ (l.length + r.length) (Q .non (o0 :: o1 :: o2 :: o3 :: o4 :: o5 :: o6 :: o7 :: o8 :: o9 :: o10 :: o11 :: o12 :: o13 :: o14 :: o15 :: o16 :: o17 :: o18 :: o19 :: o20 :: o21 :: o22 :: o23 :: some (.lst (some a) (l ++ r)) :: ρ)))) := propext ⟨fun h => h.2, fun h => ⟨rfl, h⟩⟩
theorem ev_ext2_25 : Ev (ExtQ2 (25, []) a Q (.lst ma r) (o0 :: o1 :: o2 :: o3 :: o4 :: o5 :: o6 :: o7 :: o8 :: o9 :: o10 :: o11 :: o12 :: o13 :: o14 :: o15 :: o16 :: o17 :: o18 :: o19 :: o20 :: o21 :: o22 :: o23 :: o24 :: some (.lst (some a) l) :: ρ)) = Ev (OwsQ r (SzQ (l.length + r.length) (Q .non (o0 :: o1 :: o2 :: o3 :: o4 :: o5 :: o6 :: o7 :: o8 :: o9 :: o10 :: o11 :: o12 :: o13 :: o14 :: o15 :: o16 :: o17 :: o18 :: o19 :: o20 :: o21 :: o22 :: o23 :: o24 :: some (.lst (some a) (l ++ r)) :: ρ)))) := propext ⟨fun h => h.2, fun h => ⟨rfl, h⟩⟩
theorem ev_ext2_26 : Ev (ExtQ2 (26, []) a Q (.lst ma r) (o0 :: o1 :: o2 :: o3 :: o4 :: o5 :: o6 :: o7 :: o8 :: o9 :: o10 :: o11 :: o12 :: o13 :: o14 :: o15 :: o16 :: o17 :: o18 :: o19 :: o20 :: o21 :: o22 :: o23 :: o24 :: o25 :: some (.lst (some a) l) :: ρ)) = Ev (OwsQ r (SzQ (l.length + r.length) (Q .non (o0 :: o1 :: o2 :: o3 :: o4 :: o5 :: o6 :: o7 :: o8 :: o9 :: o10 :: o11 :: o12 :: o13 :: o14 :: o15 :: o16 :: o17 :: o18 :: o19 :: o20 :: o21 :: o22 :: o23 :: o24 :: o25 :: some (.lst (some a) (l ++ r)) :: ρ)))) := propext ⟨fun h => h.2, fun h => ⟨rfl, h⟩⟩
theorem ev_ext2_27 : Ev (ExtQ2 (27, []) a Q (.lst ma r) (o0 :: o1 :: o2 :: o3 :: o4 :: o5 :: o6 :: o7 :: o8 :: o9 :: o10 :: o11 :: o12 :: o13 :: o14 :: o15 :: o16 :: o17 :: o18 :: o19 :: o20 :: o21 :: o22 :: o23 :: o24 :: o25 :: o26 :: some (.lst (some a) l) :: ρ)) = Ev (OwsQ r (SzQ (l.length + r.length) (Q .non (o0 :: o1 :: o2 :: o3 :: o4 :: o5 :: o6 :: o7 :: o8 :: o9 :: o10 :: o11 :: o12 :: o13 :: o14 :: o15 :: o16 :: o17 :: o18 :: o19 :: o20 :: o21 :: o22 :: o23 :: o24 :: o25 :: o26 :: some (.lst (some a) (l ++ r)) :: ρ)))) := propext ⟨fun h => h.2, fun h => ⟨rfl, h⟩⟩
theorem ev_ext2_28 : Ev (ExtQ2 (28, []) a Q (.lst ma r) (o0 :: o1 :: o2 :: o3 :: o4 :: o5 :: o6 :: o7 :: o8 :: o9 :: o10 :: o11 :: o12 :: o13 :: o14 :: o15 :: o16 :: o17 :: o18 :: o19 :: o20 :: o21 :: o22 :: o23 :: o24 :: o25 :: o26 :: o27 :: some (.lst (some a) l) :: ρ)) = Ev (OwsQ r (SzQ (l.length + r.length) (Q .non (o0 :: o1 :: o2 :: o3 :: o4 :: o5 :: o6 :: o7 :: o8 :: o9 :: o10 :: o11 :: o12 :: o13 :: o14 :: o15 :: o16 :: o17 :: o18 :: o19 :: o20 :: o21 :: o22 :: o23 :: o24 :: o25 :: o26 :: o27 :: some (.lst (some a) (l ++ r)) :: ρ)))) := propext ⟨fun h => h.2, fun h => ⟨rfl, h⟩⟩
theorem ev_ext2_29 : Ev (ExtQ2 (29, []) a Q (.lst ma r) (o0 :: o1 :: o2 :: o3 :: o4 :: o5 :: o6 :: o7 :: o8 :: o9 :: o10 :: o11 :: o12 :: o13 :: o14 :: o15 :: o16 :: o17 :: o18 :: o19 :: o20 :: o21 :: o22 :: o23 :: o24 :: o25 :: o26 :: o27 :: o28 :: some (.lst (some a) l) :: ρ)) = Ev (OwsQ r (SzQ (l.length + r.length) (Q .non (o0 :: o1 :: o2 :: o3 :: o4 :: o5 :: o6 :: o7 :: o8 :: o9 :: o10 :: o11 :: o12 :: o13 :: o14 :: o15 :: o16 :: o17 :: o18 :: o19 :: o20 :: o21 :: o22 :: o23 :: o24 :: o25 :: o26 :: o27 :: o28 :: some (.lst (some a) (l ++ r)) :: ρ)))) := propext ⟨fun h => h.2, fun h => ⟨rfl, h⟩⟩
end
theorem inI {i : Int} {y : D} {is : List Int} {R : D → Prop} (hy : seqD y = some (is.map .int)) (q : Ev (R (.bl (decide (i ∈ is))))) : Ev (rdIn (.int i) y R) := ⟨_, hy, .inl ⟨i, is, rfl, rfl, q⟩⟩
theorem ninI {i : Int} {y : D} {is : List Int} {R : D → Prop} (hy : seqD y = some (is.map .int)) (q : Ev (R (.bl (!decide (i ∈ is))))) : Ev (rdNotIn (.int i) y R) := ⟨_, hy, .inl ⟨i, is, rfl, rfl, q⟩⟩
/-- rows of ints -/
abbrev rowD (r : List Int) : D := .tup (r.map .int)
theorem own_row (r : List Int) : own (rowD r) = [] := owns_ints r
theorem owns_rows (l : List (List Int)) : owns (l.map rowD) = [] := owns_map_nil own_row l
theorem pyD_row (r : List Int) : pyD (rowD r) = some (.tuple (r.map .int)) := by
  show (pyDs (r.map .int)).map PyData.tuple = _
  rw [pyDs_ints]; rfl
theorem shaped_row (u : List Int) : SeqAt.shaped (.tuple (u.map .int)) = true := by
  unfold SeqAt.shaped
  rw [Bool.and_eq_true]
  refine ⟨?_, decide_eq_true ?_⟩
  · unfold PyData.canLay0; exact canLay_ints u
  · unfold PyData.depth; rw [depth_ints]; decide
theorem eqvAll_ints : ∀ a b : List Int, PyData.eqvAll (a.map .int) (b.map .int) = decide (a = b)
  | [], [] => rfl
  | [], b :: r => rfl
  | a :: l, [] => rfl
  | a :: l, b :: r => by
    show (PyData.eqv (.int a) (.int b) && PyData.eqvAll (l.map .int) (r.map .int)) = _
    rw [eqvAll_ints l r]
    show ((a == b) && decide (l = r)) = _
    by_cases h : a = b
    · subst h; simp
    · simp [h]
theorem eqv_row (a b : List Int) : PyData.eqv (.tuple (a.map .int)) (.tuple (b.map .int)) = decide (a = b) := eqvAll_ints a b
theorem neRow {a b : List Int} {R : D → Prop} (q : Ev (R (.bl (!decide (a = b))))) : Ev (rdNeD (rowD a) (rowD b) R) := ⟨_, _, pyD_row a, pyD_row b, shaped_row a, shaped_row b, by rw [eqv_row]; exact q⟩
theorem eqRow {a b : List Int} {R : D → Prop} (q : Ev (R (.bl (decide (a = b))))) : Ev (rdEqD (rowD a) (rowD b) R) := ⟨_, _, pyD_row a, pyD_row b, shaped_row a, shaped_row b, by rw [eqv_row]; exact q⟩
theorem map_bl {α : Type} (l : List α) (f : α → Bool) : l.map (fun x => D.bl (f x)) = (l.map f).map .bl := by rw [List.map_map]; rfl
theorem map_int {α : Type} (l : List α) (f : α → Int) : l.map (fun x => D.int (f x)) = (l.map f).map .int := by rw [List.map_map]; rfl
theorem zipD_map {α β : Type} (f : α → D) (g : β → D) (l : List α) (r : List β) : zipD (l.map f) (r.map g) = (List.zip l r).map fun p => .tup [f p.1, g p.2] := by
  unfold zipD
  rw [List.zipWith_map, List.zip, List.map_zipWith]
end DL
set_option Elab.async false
set_option linter.all false
set_option maxRecDepth 100000
set_option maxHeartbeats 4000000
namespace DL
open PySem PySem.Spec PyProof.Rows L2
/-! ### zip of a list and a tuple, in either order: k tells which is a tuple -/
def IsIt (k : Bool) (h : Heap) (it a : Addr) (i : Nat) : Prop := match k with
  | true => h.IsTupleIter it a i
  | false => h.IsListIter it a i
def IsSq (k : Bool) (h : Heap) (a : Addr) (xs : Array Value) : Prop := match k with
  | true => h.IsTuple a xs
  | false => h.IsList a xs
def SqK (k : Bool) (K : PySem.W.Frag) (H : Hp) (a : Addr) (xs : List V) : Prop := match k with
  | true => SqT K H a xs
  | false => SqL K H a xs
section
variable {prog : Program} {w : World} {A : Around}
theorem IsIt.at {k : Bool} {h h' : Heap} {it a : Addr} {i : Nat} (p : IsIt k h it a i) (e : ∀ o, h.get? it = some o → h'.get? it = some o) : IsIt k h' it a i := by
  cases k
  · exact Heap.IsListIter.at p e
  · exact Heap.IsTupleIter.at p e
theorem IsSq.at {k : Bool} {h h' : Heap} {a : Addr} {xs : Array Value} (p : IsSq k h a xs) (e : ∀ o, h.get? a = some o → h'.get? a = some o) : IsSq k h' a xs := by
  cases k
  · exact Heap.IsList.at p e
  · exact Heap.IsTuple.at p e
theorem IsIt.obj {k : Bool} {h : Heap} {it a : Addr} {i : Nat} (p : IsIt k h it a i) : ∃ o, h.get? it = some o ∧ ∀ v, o.data ≠ .cell v := by
  cases k
  · obtain ⟨o, e, _, d⟩ := p; exact ⟨o, e, fun v q => by rw [d] at q; cases q⟩
  · obtain ⟨o, e, _, d⟩ := p; exact ⟨o, e, fun v q => by rw [d] at q; cases q⟩
/-- what an iterator that stands at place c will draw -/
theorem drawn (k : Bool) (hh : A.handled = none) (it a : Addr) (hne : a ≠ it) (xs : Array Value) (c : Nat) :
    Draws prog w A it [it, a] (xs.size - c) (fun j v => xs[j + c]? = some v) (fun j h => IsIt k h it a (j + c) ∧ IsSq k h a xs) where
  live := fun _ _ st => let ⟨o, e, _⟩ := st.1.obj; ⟨o, e⟩
  frame := fun _ _ _ st hk => ⟨st.1.at fun o e => hk it (by simp) o e, st.2.at fun o e => hk a (by simp) o e⟩
  item := fun j s Q E hj st hQ => by
    have lt : j + c < xs.size := by omega
    have up : ∀ h' : Heap, Heap.SameBut it s.heap h' → IsIt k h' it a (j + c + 1) → IsIt k h' it a (j + 1 + c) ∧ IsSq k h' a xs := fun h' sb p => ⟨by rw [show j + 1 + c = j + c + 1 by omega]; exact p, st.2.at fun o e => sb.extBut _ _ hne e⟩
    cases k
    · exact wpAny_nextOf_list_item st.1 st.2 (x := xs[j + c]) (by simp [lt]) fun h' hit sb => hQ _ h' s.toks (by simp [lt]) (up h' sb hit) sb
    · exact wpAny_nextOf_tuple_item st.1 st.2 (x := xs[j + c]) (by simp [lt]) fun h' hit sb => hQ _ h' s.toks (by simp [lt]) (up h' sb hit) sb
  done := fun s Q E st hE => by
    have e : xs[xs.size - c + c]? = none := by simp; omega
    cases k
    · exact wpAny_nextOf_list_end hh st.1 st.2 e hE
    · exact wpAny_nextOf_tuple_end hh st.1 st.2 e hE
theorem sep (I a b : Nat) (h1 : a < I) (h2 : b < I) : ZipSep2 (I + 4) (I + 2) (I + 3) I (I + 1) [I, a] [I + 1, b] := by
  have ne : ∀ {x y : Nat}, x ≠ y → x ≠ y := fun h => h
  have ni : ∀ {x y z : Nat}, x ≠ y → x ≠ z → x ∉ [y, z] := fun h1 h2 h => by
    rcases List.mem_cons.mp h with e | e
    · exact h1 e
    · exact h2 (List.mem_singleton.mp e)
  exact ⟨ne (by omega), ne (by omega), ne (by omega), ne (by omega), List.mem_cons_self .., ni (by omega) (by omega), ni (by omega) (by omega), ne (by omega), List.mem_cons_self .., ni (by omega) (by omega), ni (by omega) (by omega), ni (by omega) (by omega), ni (by omega) (by omega)⟩
def itN : Bool → String
  | true => "tuple_iterator"
  | false => "list_iterator"
abbrev zM1 (k : Bool) (h : Heap) (l1 : Addr) : Heap := h.push { cls := .type (itN k), data := .fields #[.ref l1, .int 0 0] }
abbrev zM2 (k k2 : Bool) (h : Heap) (l1 l2 : Addr) : Heap := (zM1 k h l1).push { cls := .type (itN k2), data := .fields #[.ref l2, .int 0 0] }
abbrev zM3 (k k2 : Bool) (h : Heap) (l1 l2 : Addr) : Heap := (zM2 k k2 h l1 l2).push { cls := .type "tuple", data := .seq #[.ref h.objs.size, .ref (zM1 k h l1).objs.size] }
abbrev zM4 (k k2 : Bool) (h : Heap) (l1 l2 : Addr) : Heap := (zM3 k k2 h l1 l2).push { cls := .type "tuple", data := .seq #[.none, .none] }
abbrev zM5 (k k2 : Bool) (h : Heap) (l1 l2 : Addr) : Heap := (zM4 k k2 h l1 l2).push { cls := .type "zip", data := .fields #[.none, .bool false, .bool false, .ref (zM2 k k2 h l1 l2).objs.size, .ref (zM3 k k2 h l1 l2).objs.size] }
theorem makes_zip (k k2 : Bool) (l1 l2 : Addr) (xs ys : Array Value) :
    Meets (Builtin.«zip.__new__» ⟨[.type "zip", .ref l1, .ref l2], []⟩) (fun _ R s => IsSq k s.heap l1 xs ∧ IsSq k2 s.heap l2 ys ∧
      R (.ok (.ret (.ref (zM4 k k2 s.heap l1 l2).objs.size))) { s with heap := zM5 k k2 s.heap l1 l2 }) :=
  .of_wp fun prog w A R s h => by
    obtain ⟨hp, g, d, tk, os⟩ := s; obtain ⟨hl1, hl2, h⟩ := h
    have hsub := sub_zip
    cases k <;> cases k2
    · have hL1 : Heap.IsList (Shared.heap ⟨hp, g, d, tk, os⟩) l1 xs := hl1
      have hL2 : Heap.IsList (Shared.heap ⟨hp.push { cls := .type "list_iterator", data := .fields #[.ref l1, .int 0 0] }, g, d, tk, os⟩) l2 ys := Heap.IsList.push hl2 _
      wp_walk using wpAny_pyIter_list hL1, wpAny_pyIter_list hL2
      exact ⟨_, rfl, h⟩
    · have hL1 : Heap.IsList (Shared.heap ⟨hp, g, d, tk, os⟩) l1 xs := hl1
      have hL2 : Heap.IsTuple (Shared.heap ⟨hp.push { cls := .type "list_iterator", data := .fields #[.ref l1, .int 0 0] }, g, d, tk, os⟩) l2 ys := Heap.IsTuple.push hl2 _
      wp_walk using wpAny_pyIter_list hL1, wpAny_pyIter_tuple hL2
      exact ⟨_, rfl, h⟩
    · have hL1 : Heap.IsTuple (Shared.heap ⟨hp, g, d, tk, os⟩) l1 xs := hl1
      have hL2 : Heap.IsList (Shared.heap ⟨hp.push { cls := .type "tuple_iterator", data := .fields #[.ref l1, .int 0 0] }, g, d, tk, os⟩) l2 ys := Heap.IsList.push hl2 _
      wp_walk using wpAny_pyIter_tuple hL1, wpAny_pyIter_list hL2
      exact ⟨_, rfl, h⟩
    · have hL1 : Heap.IsTuple (Shared.heap ⟨hp, g, d, tk, os⟩) l1 xs := hl1
      have hL2 : Heap.IsTuple (Shared.heap ⟨hp.push { cls := .type "tuple_iterator", data := .fields #[.ref l1, .int 0 0] }, g, d, tk, os⟩) l2 ys := Heap.IsTuple.push hl2 _
      wp_walk using wpAny_pyIter_tuple hL1, wpAny_pyIter_tuple hL2
      exact ⟨_, rfl, h⟩
end
end DL
set_option Elab.async false
set_option linter.all false
set_option maxRecDepth 100000
set_option maxHeartbeats 4000000
namespace DL
open PySem PySem.Spec PyProof.Rows L2
section
variable {prog : Program} {w : World} {A : Around} {E : Value → Shared → Prop} {s : Shared}
theorem call_zipM (k k2 : Bool) {l1 l2 : Addr} {xs ys : Array Value} {Q : Value → Shared → Prop} (hl1 : IsSq k s.heap l1 xs) (hl2 : IsSq k2 s.heap l2 ys)
    (h : ∀ h', IsZip h' (s.heap.objs.size + 4) (s.heap.objs.size + 2) (s.heap.objs.size + 3) .none → IsPair h' (s.heap.objs.size + 2) (.ref s.heap.objs.size) (.ref (s.heap.objs.size + 1)) →
      IsPair h' (s.heap.objs.size + 3) .none .none → IsIt k h' s.heap.objs.size l1 0 → IsIt k2 h' (s.heap.objs.size + 1) l2 0 →
      (∀ c o, s.heap.get? c = some o → h'.get? c = some o) → Q (.ref (s.heap.objs.size + 4)) { s with heap := h' }) :
    wpAny (model prog w) A (call (.type "zip") [.ref l1, .ref l2]) Q E s := by
  refine callType_new F.called_zip (by decide) (F.typeCall_zip_2 _ _) (F.newCall_zip_2 _ _) (fun obj => F.args_object_init_3 obj _ _) F.entry_zip_new
    (makes_zip k k2 l1 l2 xs ys) ⟨hl1, hl2, ?_⟩
  have a1 : (zM1 k s.heap l1).objs.size = s.heap.objs.size + 1 := Heap.size_push ..
  have a2 : (zM2 k k2 s.heap l1 l2).objs.size = s.heap.objs.size + 2 := by rw [Heap.size_push, a1]
  have a3 : (zM3 k k2 s.heap l1 l2).objs.size = s.heap.objs.size + 3 := by rw [Heap.size_push, a2]
  have a4 : (zM4 k k2 s.heap l1 l2).objs.size = s.heap.objs.size + 4 := by rw [Heap.size_push, a3]
  have up : ∀ {h : Heap} {o o' : Obj} {c : Addr}, h.get? c = some o → (h.push o').get? c = some o := fun e => Heap.get?_push_of_some _ e
  have b5 : (zM5 k k2 s.heap l1 l2).get? (zM4 k k2 s.heap l1 l2).objs.size = some _ := Heap.get?_push_size _ rfl
  have b4 : (zM5 k k2 s.heap l1 l2).get? (zM3 k k2 s.heap l1 l2).objs.size = some _ := up (Heap.get?_push_size _ rfl)
  have b3 : (zM5 k k2 s.heap l1 l2).get? (zM2 k k2 s.heap l1 l2).objs.size = some _ := up (up (Heap.get?_push_size _ rfl))
  have b2 : (zM5 k k2 s.heap l1 l2).get? (zM1 k s.heap l1).objs.size = some _ := up (up (up (Heap.get?_push_size _ rfl)))
  have b1 : (zM5 k k2 s.heap l1 l2).get? s.heap.objs.size = some _ := up (up (up (up (Heap.get?_push_size _ rfl))))
  show _ ∧ _
  rw [a2, a3, a4] at b5
  rw [a1, a2] at b3
  rw [a3] at b4
  rw [a1] at b2
  rw [a4]
  refine ⟨⟨_, b5, rfl⟩, h _ b5 b3 b4 ?_ ?_ fun c o x => up (up (up (up (up x))))⟩
  · cases k <;> exact ⟨_, b1, rfl, rfl⟩
  · cases k2 <;> exact ⟨_, b2, rfl, rfl⟩
end
section
variable {X : Cx} {pins : List (Addr × Obj)} {σ : L2.St} {H : Hp} {s : Shared}
theorem sq_items (I : Inv X pins σ H s) {k : Bool} {a : Addr} {xs : List V} (h : SqK k X.K H a xs) : ∃ its, Vals xs its ∧ IsSq k s.heap a its.toArray ∧ a < s.heap.objs.size := by
  cases k
  · obtain ⟨its, rv, p, _⟩ := I.list h
    exact ⟨its, rv, p.isList, p.lt⟩
  · obtain ⟨its, rv, p, _⟩ := I.tuple h
    exact ⟨its, rv, p, by obtain ⟨o, e, _⟩ := id p; exact Heap.lt_size e⟩
theorem sq_inj (I : Inv X pins σ H s) {k : Bool} {a : Addr} {xs ys : List V} (h : SqK k X.K H a xs) (h2 : SqK k X.K H a ys) : xs = ys := by
  cases k
  · exact I.list_inj h h2
  · exact I.tuple_inj h h2
end
/-- the two as they stand at each turn, the items in new pairs -/
def ItM (k k2 : Bool) (K : PySem.W.Frag) (a b : Addr) : It :=
  ⟨fun i H => ∃ (xs ys : List V) (x y : V), SqK k K H a xs ∧ SqK k2 K H b ys ∧ xs[i]? = some x ∧ ys[i]? = some y,
    fun i H v H' => ∃ T x y, v = .ref T ∧ H T = none ∧ H' = upd H T (.tup [x, y]) ∧ (∀ xs, SqK k K H a xs → xs[i]? = some x) ∧ ∀ ys, SqK k2 K H b ys → ys[i]? = some y,
    fun i H => ∃ xs ys : List V, SqK k K H a xs ∧ SqK k2 K H b ys ∧ (xs.length ≤ i ∨ ys.length ≤ i)⟩
theorem turnM {P : Program} {w : World} {K : PySem.W.Frag} {elts : List Expr} {kk : Nat} {tpos : Pos} {a b J : Nat} (k k2 : Bool) (ha : a < J) (hb : b < J) :
    Turn P w K (.Tuple elts kk tpos) (ItM k k2 K a b) [J + 4, J + 2, J + 3, J, J + 1] (J + 4) (fun i h => IsZip h (J + 4) (J + 2) (J + 3) .none ∧ IsPair h (J + 2) (.ref J) (.ref (J + 1)) ∧ (∃ x y, IsPair h (J + 3) x y) ∧ IsIt k h J a i ∧ IsIt k2 h (J + 1) b i) := by
  have ne : ∀ {x y : Nat}, x ≠ y → (x : Addr) ≠ y := fun h => h
  have mem : ∀ {c : Addr}, c ∈ [J + 4, J + 2, J + 3, J, J + 1] → c = J + 4 ∨ c = J + 2 ∨ c = J + 3 ∨ c = J ∨ c = J + 1 := fun h => by simpa using h
  have nJa : ne (show a ≠ J by omega) = ne (show a ≠ J by omega) := rfl
  have S := sep J a b ha hb
  refine ⟨by simp, fun i h st c hc => ?_, fun i h h' st q => ?_, ?_, ?_, fun A i s Q E st h => wpAny_pyIter_zip st.1 h⟩
  · obtain ⟨hz, hTI, ⟨x, y, hTO⟩, h1, h2⟩ := st
    rcases mem hc with rfl | rfl | rfl | rfl | rfl
    · exact ⟨_, hz, fun v q => nomatch q⟩
    · exact ⟨_, hTI, fun v q => nomatch q⟩
    · exact ⟨_, hTO, fun v q => nomatch q⟩
    · exact h1.obj
    · exact h2.obj
  · obtain ⟨hz, hTI, ⟨x, y, hTO⟩, h1, h2⟩ := st
    exact ⟨q _ (by simp) _ hz, q _ (by simp) _ hTI, ⟨x, y, q _ (by simp) _ hTO⟩, h1.at fun o e => q _ (by simp) o e, h2.at fun o e => q _ (by simp) o e⟩
  · intro X hP hw hK hc i pins s σ H E I hf st hg
    subst hP hw hK
    obtain ⟨hz, hTI, ⟨x0, y0, hTO⟩, h1, h2⟩ := st
    obtain ⟨xs, ys, x, y, hqx, hqy, hx, hy⟩ := hg
    obtain ⟨its, rv, p, _⟩ := sq_items I hqx
    obtain ⟨its2, rv2, p2, _⟩ := sq_items I hqy
    obtain ⟨u, hu, ru⟩ := rv.get hx
    obtain ⟨u2, hu2, ru2⟩ := rv2.get hy
    have l1 := rv.length
    have l2 := rv2.length
    have lx := (List.getElem?_eq_some_iff.mp hx).1
    have ly := (List.getElem?_eq_some_iff.mp hy).1
    have hzl : J + 4 < s.heap.objs.size := Heap.lt_size hz
    have nh : X.A.in1.handled = none := I.ok.hd hc
    refine wpAny_pyNext_zipD2_item S (drawn k nh J a (ne (by omega)) its.toArray i) (drawn k2 nh (J + 1) b (ne (by omega)) its2.toArray i) hz hTI hTO (i := 0)
      ⟨by rw [Nat.zero_add]; exact h1, p⟩ ⟨by rw [Nat.zero_add]; exact h2, p2⟩ (by simp; omega) (by simp; omega) fun x1 x2 h' tk q1 q2 z' TO' st1 st2 hT hsz hk => ?_
    have e1 : x1 = u := by
      rw [Nat.zero_add] at q1
      have q : its[i]? = some x1 := by simpa using q1
      exact Option.some.inj (q.symm.trans hu)
    have e2 : x2 = u2 := by
      rw [Nat.zero_add] at q2
      have q : its2[i]? = some x2 := by simpa using q2
      exact Option.some.inj (q.symm.trans hu2)
    subst e1 e2
    have h1' : IsIt k h' J a (i + 1) := by have := st1.1; rw [show 0 + 1 + i = i + 1 by omega] at this; exact this
    have h2' : IsIt k2 h' (J + 1) b (i + 1) := by have := st2.1; rw [show 0 + 1 + i = i + 1 by omega] at this; exact this
    refine ⟨_, rfl, wpAny_letOwnedTupleGo_zip (s := { s with heap := h', toks := tk }) z' fun h'' z'' sb => ?_⟩
    have hT2 : h''.get? s.heap.objs.size = some { cls := .type "tuple", data := .seq #[x1, x2] } := (sb.2 _ (ne (by omega))).trans hT
    have new : ObjOk X.prog X.w (upd H s.heap.objs.size (.tup [x, y])) h'' s.heap.objs.size (.tup [x, y]) :=
      ⟨by show 2 ≤ sizeLine; decide, [x1, x2], .cons ru (.cons ru2 .nil), ⟨_, hT2, rfl, _, rfl⟩⟩
    have I1 : Inv X pins σ (upd H s.heap.objs.size (.tup [x, y])) { s with heap := h'', toks := tk } :=
      I.turnedNew (t' := tk) (ch := [J + 4, J + 2, J + 3, J, J + 1]) (fun c o hb q => (sb.2 c (fun q' => hb (by simp [q']))).trans (hk c o (fun q' => hb (by simp [q'])) (fun q' => hb (by simp [q'])) (fun q' => hb (by simp [q'])) (fun q' => hb (by simp [q'])) q)) hf (Nat.le_refl _) new
    refine ⟨.ref s.heap.objs.size, _, I1, rfl, ⟨_, x, y, rfl, I.hok.fresh (Nat.le_refl _), rfl, fun l hl => by rw [sq_inj I hl hqx]; exact hx, fun l hl => by rw [sq_inj I hl hqy]; exact hy⟩, ⟨z'', ?_, ⟨x1, x2, ?_⟩, ?_, ?_⟩, fun c hcm => ?_⟩
    · exact (sb.2 _ S.TIz).trans (hk _ _ S.TIz S.TITO S.TIi1 S.TIi2 hTI)
    · exact (sb.2 _ S.TOz).trans TO'
    · exact h1'.at fun o q => (sb.2 _ (ne (by omega))).trans q
    · exact h2'.at fun o q => (sb.2 _ (ne (by omega))).trans q
    · have cb := mem hcm
      have hlt : c < s.heap.objs.size := by
        have lt : ∀ {x : Nat}, x ≤ J + 4 → x < s.heap.objs.size := fun h => Nat.lt_of_le_of_lt h hzl
        rcases cb with e | e | e | e | e <;> (rw [e]; exact lt (by omega))
      rw [upd_ne (Nat.ne_of_lt hlt)]
      exact (hf c hcm).1
  · intro X hP hw hK hc i pins s σ H E I hf st hg
    subst hP hw hK
    obtain ⟨hz, hTI, ⟨x0, y0, hTO⟩, h1, h2⟩ := st
    obtain ⟨xs, ys, hqx, hqy, hend⟩ := hg
    obtain ⟨its, rv, p, _⟩ := sq_items I hqx
    obtain ⟨its2, rv2, p2, _⟩ := sq_items I hqy
    have l1 := rv.length
    have l2 := rv2.length
    have nh : X.A.in1.handled = none := I.ok.hd hc
    refine wpAny_pyNext_zipD2_end S (drawn k nh J a (ne (by omega)) its.toArray i) (drawn k2 nh (J + 1) b (ne (by omega)) its2.toArray i) hz hTI hTO (i := 0)
      ⟨by rw [Nat.zero_add]; exact h1, p⟩ ⟨by rw [Nat.zero_add]; exact h2, p2⟩ (Nat.zero_le _) (Nat.zero_le _) (by simp; omega) fun h' tk hk => ⟨rfl, ?_⟩
    exact I.turnedL (t' := tk) (ch := [J + 4, J + 2, J + 3, J, J + 1]) (fun c o hb q =>
      hk c o (fun q' => hb (by simp [q'])) (fun q' => hb (by simp [q'])) (fun q' => hb (by simp [q'])) (fun q' => hb (by simp [q'])) q) hf
def iZipM (K : PySem.W.Frag) (ta : TA) : TI := fun σ H R => ta σ H fun vs H1 => ∃ k k2 a b xs ys, vs = [.ref a, .ref b] ∧ SqK k K H1 a xs ∧ SqK k2 K H1 b ys ∧ R (ItM k k2 K a b) H1
theorem pi_zipM {X : Cx} {e e2 : Expr} {ta : TA} {p pos tpos : Pos} {elts : List Expr} {kk : Nat} (hg : Gl X "zip") (hm : X.mg "zip" = none) (ha : PA X [e, e2] ta)
    (hs : starEach [e, e2] X.env = (false, eval e X.env) :: starEach [e2] X.env) (hpl : (backTo pos (starEach [e2] X.env)).any (·.1) = false) :
    PI X (.Tuple elts kk tpos) (.Call (.Name "zip" p) [e, e2] [] pos) (iZipM X.K ta) := by
  refine ⟨fun pins s σ H R I h => Call_ (ld_blt I hg hm PyProof.Rows.boot_zip (PyProof.Rows.callWith_type1 (thn (ha.run pos pins s σ H _ I h) fun us s1 ⟨vs, H1, I1, r1, q1⟩ => ?_) hs hpl))⟩
  obtain ⟨k, k2, a, b, xs, ys, ex, hqx, hqy, q⟩ := q1
  subst ex
  cases r1 with
  | cons r rr =>
    cases rr with
    | cons r' rr =>
      cases rr
      cases r
      cases r'
      obtain ⟨its, rv, p1, la⟩ := sq_items I1 hqx
      obtain ⟨its2, rv2, p2, lb⟩ := sq_items I1 hqy
      refine call_zipM k k2 p1 p2 fun h' hz hTI hTO h1 h2 hk => wpAny_pyIter_zip hz ?_
      refine ⟨_, _, _, _, H1, rfl, I1.kept (t' := s1.toks) hk, turnM (J := s1.heap.objs.size) k k2 la lb, ⟨hz, hTI, ⟨_, _, hTO⟩, h1, h2⟩, fun c hc => ?_, q⟩
      have cb : c = s1.heap.objs.size + 4 ∨ c = s1.heap.objs.size + 2 ∨ c = s1.heap.objs.size + 3 ∨ c = s1.heap.objs.size ∨ c = s1.heap.objs.size + 1 := by simpa using hc
      have le : s1.heap.objs.size ≤ c := by
        have ge : ∀ {n : Nat}, s1.heap.objs.size ≤ s1.heap.objs.size + n := Nat.le_add_right _ _
        rcases cb with e | e | e | e | e <;> (rw [e]; first | exact ge (n := _) | exact Nat.le_refl _)
      exact I1.fpOk le (I1.hok.fresh le)
section
variable {K : PySem.W.Frag} {Z H : Hp}
theorem walk_zipM {k k2 : Bool} {p q : Addr} {vs us : List V} {l r : List D} (up : ∀ {H' : Hp}, Sub Z H' → SqK k K H' p vs) (hr : Reps K Z H l vs) (n : owns l = []) (up2 : ∀ {H' : Hp}, Sub Z H' → SqK k2 K H' q us) (hr2 : Reps K Z H r us) (n2 : owns r = []) : Walk K Z (ItM k k2 K p q) (zipD l r) := by
  refine ⟨zipD_own n n2, fun Z1 H1 hz hh i => ⟨fun d hd => ?_, fun hd => ?_⟩⟩
  · obtain ⟨x, y, e1, e2, rfl⟩ := zipD_get hd
    obtain ⟨v, h1, h2⟩ := hr.get e1
    obtain ⟨u, h3, h4⟩ := hr2.get e2
    have hS := up (hz.trans hh)
    have hS2 := up2 (hz.trans hh)
    refine ⟨⟨vs, us, v, u, hS, hS2, h1, h3⟩, fun z H2 hy => ?_⟩
    obtain ⟨T, v', u', rfl, hT, rfl, g1, g2⟩ := hy
    obtain rfl : v' = v := Option.some.inj ((g1 vs hS).symm.trans h1)
    obtain rfl : u' = u := Option.some.inj ((g2 us hS2).symm.trans h3)
    have nx := owns_nil.mp n x (List.mem_of_getElem? e1)
    have ny := owns_nil.mp n2 y (List.mem_of_getElem? e2)
    exact ⟨_, pair_item hh hT (Rep.sh (H' := H1) hz nx h2) nx (Rep.sh (H' := H1) hz ny h4) ny⟩
  · refine ⟨vs, us, up (hz.trans hh), up2 (hz.trans hh), ?_⟩
    rw [hr.length, hr2.length]; exact zipD_none hd
end
/-- a tuple, or a list that nobody owns -/
def sqD : D → Option (List D)
  | .tup l => some l
  | .lst none l => some l
  | _ => none
theorem rep_sq {K : PySem.W.Frag} {Z H : Hp} {d : D} {v : V} {l : List D} (e : sqD d = some l) (r : Rep K Z H d v) (hs : Sub Z H) : ∃ k p vs, v = .ref p ∧ (∀ {H' : Hp}, Sub Z H' → SqK k K H' p vs) ∧ Reps K Z H l vs := by
  cases d with
  | tup l' =>
    cases e
    obtain ⟨_, p, vs, f, hp, hr⟩ := id r
    exact ⟨true, p, vs, f, fun h => sub_t h hp, hr⟩
  | lst m l' =>
    cases m with
    | some a => cases e
    | none =>
      cases e
      obtain ⟨_, p, vs, f, hp, hr⟩ := id r
      exact ⟨false, p, vs, f, fun h => SqL.of (h _ _ hp), hr⟩
  | _ => cases e
def iZip4 (ws : Aw) : Iw := fun ρ Q Qx => ws ρ (fun as ρ1 => match as with
  | [.val a, .val b] => ∃ l r, sqD a = some l ∧ sqD b = some r ∧ owns l = [] ∧ owns r = [] ∧ Q (zipD l r) ρ1
  | _ => False) Qx
section
variable {X : Cx} {W : WX} {a b : Expr} {elts : List Expr} {kk : Nat} {p pos tpos : Pos}
theorem di_zip4 {ws : Aw} (h : DA X W [a, b] ws) (hg : Gl X "zip") (hm : X.mg "zip" = none) (hs : starEach [a, b] X.env = (false, eval a X.env) :: starEach [b] X.env := by rfl) (hpl : (backTo pos (starEach [b] X.env)).any (·.1) = false := by rfl) :
    DI X W (.Tuple elts kk tpos) (.Call (.Name "zip" p) [a, b] [] pos) (iZip4 ws) := by
  obtain ⟨t, pa, ra⟩ := h
  refine ⟨_, pi_zipM hg hm pa hs hpl, fun σ H Z ρ Q Qx s w fx R q => ?_⟩
  refine ra σ H Z ρ _ Qx s w fx _ fun vs as ρ1 Z1 H1 wx o => ?_
  split at wx
  · obtain ⟨l, r, s1, s2, n1, n2, wx⟩ := wx
    obtain ⟨v, vr, e, r1, u, ur, e2, r2, e3⟩ := o.rep
    have e4 : ur = [] := e3
    obtain ⟨k, p1, vs1, f1, up1, hr1⟩ := rep_sq s1 r1 o.st.sub
    obtain ⟨k2, p2, vs2, f2, up2, hr2⟩ := rep_sq s2 r2 o.st.sub
    refine ⟨k, k2, p1, p2, vs1, vs2, by rw [e, e2, e4, f1, f2], up1 o.st.sub, up2 o.st.sub, q _ ρ1 Z1 H1 _ wx ⟨o.st, o.step.sub fun a ha => List.mem_append_right _ ha⟩ (walk_zipM up1 hr1 n1 up2 hr2 n2)⟩
  · exact wx.elim
end
end DL
set_option Elab.async false
set_option linter.all false
set_option maxRecDepth 100000
namespace DL
open PySem PySem.Spec PyProof.Rows L2
/-! ### is True, is not True -/
def rdIsB : RD := fun x y Q => match x, y with
  | .bl a, .bl b => Q (.bl (decide (a = b)))
  | _, _ => False
def rdNotB : RD := fun x y Q => match x, y with
  | .bl a, .bl b => Q (.bl (!decide (a = b)))
  | _, _ => False
theorem dop_isB {X : Cx} : DOp X (compareOp .Is) rdIsB := by
  refine ⟨_, op_isBl, fun Z H x y u v Q _ rx ry w QQ q => ?_⟩
  unfold rdIsB at w
  split at w
  · exact ⟨_, _, rx, ry, q _ _ w rfl rfl⟩
  · exact w.elim
theorem dop_notB {X : Cx} : DOp X (compareOp .IsNot) rdNotB := by
  refine ⟨_, op_notBl, fun Z H x y u v Q _ rx ry w QQ q => ?_⟩
  unfold rdNotB at w
  split at w
  · exact ⟨_, _, rx, ry, q _ _ w rfl rfl⟩
  · exact w.elim
/-! ### sum of a list or a tuple -/
theorem sumT_raw {prog : Program} {w : World} {A : Around} {E : Value → Shared → Prop} {s : Shared} {t : Addr} {its : List Value} {ns : List Int} {Q : Value → Shared → Prop} (hh : A.handled = none) (ht : s.heap.IsTuple t its.toArray) (hi : IntsAre its ns)
    (h : ∀ h' tk t', (∀ b o, s.heap.get? b = some o → h'.get? b = some o) → Q (.int ns.sum t') { s with heap := h', toks := tk }) : wpAny (model prog w) A (call (.builtin "sum") [.ref t]) Q E s := by
  obtain ⟨xs, e⟩ := hi.allInts.items
  have hn : numsOf (intItems xs).toList = ns := by rw [← e]; exact hi.numsOf
  rw [nums_intItems] at hn
  rw [e] at ht
  refine PySem.W.ktm_sumG hh ht fun h' tk t' hk => ?_
  have q := h h' tk t' hk
  rw [preSum_eq, List.take_of_length_le (by simp), hn]; exact q
def rSumS (K : PySem.W.Frag) : List V → Hp → VK → Prop := fun vs H Q => ∃ (k : Bool) (a : Addr) (ns : List Int), vs = [.ref a] ∧ SqK k K H a (ns.map V.int) ∧ Q (.int ns.sum) H
theorem cr_sumS {X : Cx} (hc : X.calm = true) : CallR X (.builtin "sum") (rSumS X.K) := by
  intro pins s σ H vs us Q I r h
  obtain ⟨k, a, ns, rfl, hs, q⟩ := h
  rw [Vals.ref1 r]
  obtain ⟨its, rv, hl, _⟩ := sq_items I hs
  cases k
  · exact sum_raw (I.ok.hd hc) hl rv.ints fun h' tk t' hk => ⟨.int _, H, I.kept hk, ⟨_, rfl⟩, q⟩
  · exact sumT_raw (I.ok.hd hc) hl rv.ints fun h' tk t' hk => ⟨.int _, H, I.kept hk, ⟨_, rfl⟩, q⟩
def rdSumS : List D → (D → Prop) → Prop := fun ds Q => ∃ (d : D) (is : List Int), ds = [d] ∧ sqD d = some (is.map .int) ∧ Q (.int is.sum)
theorem dc_sumS {X : Cx} (hc : X.calm = true) : DCall X (.builtin "sum") rdSumS := by
  refine ⟨_, cr_sumS hc, fun Z H ds vs Q hs rs w QQ q => ?_⟩
  obtain ⟨d, is, rfl, e, w⟩ := w
  obtain ⟨v, vr, ev, r1, r2⟩ := rs
  obtain ⟨k, p, ws, f, up, hr⟩ := rep_sq e r1 hs
  exact ⟨k, p, is, by rw [ev, f, show vr = [] from r2], by rw [← intsOf_rep (intsOf_map is) hr]; exact up hs, q _ _ w rfl rfl⟩
theorem sumS {d : D} {is : List Int} {R : D → Prop} (e : sqD d = some (is.map .int)) (h : Ev (R (.int is.sum))) : Ev (rdSumS [d] R) := ⟨d, is, rfl, e, h⟩
/-- sum of a list of ints, read where it stands -/
def pSum (wa : Pw) : Pw := fun ρ Q => wa ρ fun x => match x with
  | .lst _ l => (match intsOf l with
    | some ns => Q (.int ns.sum)
    | none => False)
  | _ => False
theorem dp_sum {X : Cx} {a : Expr} {wa : Pw} {p pos : Pos} (hc : X.calm = true) (ha : DP X a wa) (hg : Gl X "sum") (hm : X.mg "sum" = none) (hv : bootBuiltins "sum" = some (.builtin "sum")) (he : starEach [a] X.env = [(false, eval a X.env)] := by rfl) : DP X (.Call (.Name "sum" p) [a] [] pos) (pSum wa) := by
  obtain ⟨ta, pa, ra⟩ := ha
  refine ⟨_, pe_callB (cr_sum hc) hg hm hv (pa_cons pa pa_nil he) (by decide) (by decide) he (by rfl), fun σ H Z ρ Q s w QQ q => ?_⟩
  refine ra σ H Z ρ _ s w _ fun u x wx rx => ?_
  cases x with
  | lst m l =>
    obtain ⟨p, vs, e, hs', hr⟩ := lst_read s.sub rx
    cases h : intsOf l with
    | none => simp only [h] at wx
    | some ns =>
      simp only [h] at wx
      exact ⟨p, ns, by rw [e], by rw [← intsOf_rep h hr]; exact SqL.of hs', q _ _ wx rfl⟩
  | _ => exact wx.elim
def SumQ (R : D → Prop) (x : D) : Prop := match x with
  | .lst _ l => (match intsOf l with
    | some ns => R (.int ns.sum)
    | none => False)
  | _ => False
def Zip4Q (Q : List D → Env → Prop) (as : List Arg) (ρ1 : Env) : Prop := match as with
  | [.val a, .val b] => ∃ l r, sqD a = some l ∧ sqD b = some r ∧ owns l = [] ∧ owns r = [] ∧ Q (zipD l r) ρ1
  | _ => False
section
variable {o0 o1 o2 o3 o4 o5 o6 o7 o8 o9 o10 o11 o12 o13 o14 o15 o16 o17 o18 o19 o20 o21 o22 o23 o24 o25 o26 o27 o28 o29 o30 oo : Option D}
variable {wa wb wp wq wr : Pw} {we wf : Ew} {wt wu : Tw} {ws : Aw} {wi : Iw} {wl : Lw} {g : Gw} {gs : List D → Env → (Env → Prop) → Prop} {ρ : Env} {x y z d e : D} {i j n : Int} {k m : Nat} {l r ds : List D} {as : List Arg} {Q : D → Env → Prop} {QB : Bool → Env → Prop} {QA : List Arg → Env → Prop} {QI : List D → Env → Prop} {QE : Env → Prop} {Qx : QX} {R : D → Prop} {RB : Bool → Prop} {RO : Option Int → Prop} {RL : List D → Prop} {RE : List D → Env → Prop} {D0 : DEnds} {w1 w2 : Sw} {dsp : DSp} {rd : RD} {rdl : List D → (D → Prop) → Prop} {gg : Int → Int → D} {g2 : Int → Int → Int} {C : Int → Int → Prop} {A B : Prop} {b : Bool} {p : Prop} {a : Addr} {ma : Option Addr} {s t : Str} {nx ct bk : Env → Prop} {rt : D → Env → Prop} {xx : QX} {is : List Int} {pt : Path} {lo hi : Option Pw} {vs : List Nat} {ff : Nat → D → D}

theorem ev_isB {a : Bool} : Ev (rdIsB (.bl a) (.bl true) R) = Ev (R (.bl a)) := by cases a <;> rfl
theorem ev_notB {a : Bool} : Ev (rdNotB (.bl a) (.bl true) R) = Ev (R (.bl (!a))) := by cases a <;> rfl
theorem ev_sumP : Ev (pSum wp ρ R) = Ev (wp ρ (SumQ R)) := rfl
theorem ev_sumQ {is : List Int} : Ev (SumQ R (.lst ma (is.map .int))) = Ev (R (.int is.sum)) := by show (match intsOf (is.map .int) with | some ns => R (.int ns.sum) | none => False) = _; rw [intsOf_map]; rfl
theorem ev_zip4 : Ev (iZip4 ws ρ QI Qx) = Ev (ws ρ (Zip4Q QI) Qx) := rfl
end
theorem zip4 {QI : List D → Env → Prop} {ρ : Env} {a b : D} {l r : List D} (ha : sqD a = some l) (hb : sqD b = some r) (n1 : owns l = []) (n2 : owns r = []) (h : Ev (QI (zipD l r) ρ)) : Ev (Zip4Q QI [.val a, .val b] ρ) := ⟨l, r, ha, hb, n1, n2, h⟩
theorem sqS {l : List D} (q : Sq l) : sqD q.d = some l := by
  obtain ⟨d, h⟩ := q
  rcases h with rfl | rfl <;> rfl
/-- lists of ints -/
abbrev ilD (r : List Int) : D := .lst none (r.map .int)
end DL
set_option Elab.async false
set_option linter.all false
set_option maxRecDepth 100000
namespace DL
open PySem PySem.Spec PyProof.Rows L2
/-! ### sorted of ints, any number of them -/
def eSortI (ws : Aw) : Ew := fun ρ Q Qx => ws ρ (fun as ρ1 => match valsOf as with
  | some [.lst m l] => m = none ∧ ∃ ns : List Int, l = ns.map .int ∧ ∀ (ns' : List Int) p, ns'.Perm ns → ns'.Pairwise (· ≤ ·) → Q (.lst (some p) (ns'.map .int)) ρ1
  | _ => False) Qx
section
variable {X : Cx} {W : WX} {e : Expr} {es : List Expr} {ws : Aw} {pos : Pos}
theorem reps_intsV {K : PySem.W.Frag} {Z H : Hp} : ∀ (ns : List Int) (vs : List V), Reps K Z H (ns.map .int) vs → vs = ns.map V.int
  | [], vs, r => r
  | n :: ns, vs, r => by
    obtain ⟨v, vr, rfl, r1, r2⟩ := r
    rw [show v = .int n from r1, reps_intsV ns vr r2]; rfl
theorem ints_reps {K : PySem.W.Frag} {Z H : Hp} : ∀ ns : List Int, Reps K Z H (ns.map .int) (ns.map V.int)
  | [] => rfl
  | n :: ns => ⟨_, _, rfl, rfl, ints_reps ns⟩
theorem de_sortI {p : Pos} (hg : Gl X "sorted") (hm : X.mg "sorted" = none) (ha : DA X W (e :: es) ws)
    (he : starEach (e :: es) X.env = (false, eval e X.env) :: starEach es X.env := by rfl) (hpl : (backTo pos (starEach es X.env)).any (·.1) = false := by rfl) : DE X W (.Call (.Name "sorted" p) (e :: es) [] pos) (eSortI ws) := by
  obtain ⟨t, pa, ra⟩ := ha
  refine ⟨_, pe_callB cr_sortedI hg hm (by decide +kernel) pa (by decide) (by decide) he hpl, fun σ H Z ρ Q Qx s w fx QQ q => ?_⟩
  refine ra σ H Z ρ _ Qx s w fx _ fun vs as ρ1 Z1 H1 wx o => ?_
  cases h : valsOf as with
  | none => simp only [h] at wx
  | some ds =>
    simp only [h] at wx
    obtain ⟨rs, ow⟩ := valsOf_rep h o.rep
    match ds, wx, rs, ow with
    | [.lst m l], ⟨hm, ns, hl, wx⟩, rs, ow =>
      subst hm hl
      obtain ⟨v, vr, e, r1, r2⟩ := rs
      obtain ⟨_, a, xs, ev, hz, hr⟩ := r1
      have st : Step Z H (eo ρ) Z1 H1 (eo ρ1) := o.step.sub fun a ha => List.mem_append_right _ ha
      refine ⟨a, ns, by rw [e, ev, show vr = [] from r2], by rw [← reps_intsV ns xs hr]; exact SqL.of (o.st.sub a _ hz), fun ns' p hp hs hn => ?_⟩
      exact q _ _ ρ1 _ _ (wx ns' p hp hs) ((out_new o.st hn (ints_reps ns') (owns_ints ns')).pre st)
end
def SortIQ (Q : D → Env → Prop) (as : List Arg) (ρ1 : Env) : Prop := match valsOf as with
  | some [.lst m l] => m = none ∧ ∃ ns : List Int, l = ns.map .int ∧ ∀ (ns' : List Int) p, ns'.Perm ns → ns'.Pairwise (· ≤ ·) → Q (.lst (some p) (ns'.map .int)) ρ1
  | _ => False
def Sort2Q (Q : D → Env → Prop) (as : List Arg) (ρ1 : Env) : Prop := match valsOf as with
  | some [.lst m l] => owns l = [] ∧ m = none ∧ ∃ ps : List (Int × Int), l = ps.map prD ∧ ps.length < 64 ∧ (∀ p ∈ ps, 0 ≤ p.1 ∧ p.1 < 1000000 ∧ 0 ≤ p.2 ∧ p.2 < 1000000) ∧
    ∀ (ps' : List (Int × Int)) p, ps'.Perm ps → Asc ps' → Q (.lst (some p) (ps'.map prD)) ρ1
  | _ => False
theorem ev_sortI {ws : Aw} {ρ : Env} {Q : D → Env → Prop} {Qx : QX} : Ev (eSortI ws ρ Q Qx) = Ev (ws ρ (SortIQ Q) Qx) := rfl
theorem ev_sort2 {ws : Aw} {ρ : Env} {Q : D → Env → Prop} {Qx : QX} : Ev (eSort2 ws ρ Q Qx) = Ev (ws ρ (Sort2Q Q) Qx) := rfl
theorem sortI {Q : D → Env → Prop} {ρ : Env} {ns : List Int} (q : ∀ (ns' : List Int) p, ns'.Perm ns → ns'.Pairwise (· ≤ ·) → Ev (Q (.lst (some p) (ns'.map .int)) ρ)) : Ev (SortIQ Q [.val (.lst none (ns.map .int))] ρ) := ⟨rfl, ns, rfl, q⟩
theorem sort2 {Q : D → Env → Prop} {ρ : Env} {ps : List (Int × Int)} (h : ps.length < 64) (hb : ∀ p ∈ ps, 0 ≤ p.1 ∧ p.1 < 1000000 ∧ 0 ≤ p.2 ∧ p.2 < 1000000) (q : ∀ (ps' : List (Int × Int)) p, ps'.Perm ps → Asc ps' → Ev (Q (.lst (some p) (ps'.map prD)) ρ)) : Ev (Sort2Q Q [.val (.lst none (ps.map prD))] ρ) := ⟨owns_prD ps, rfl, ps, rfl, h, hb, q⟩
end DL
set_option Elab.async false
set_option linter.all false
set_option maxRecDepth 100000
set_option maxHeartbeats 4000000
namespace DL
open PySem PySem.Spec PyProof.Rows L2
/-! ### xs[i] op= e of ints, the value any expression that leaves the list where it is -/
def tgL (K : PySem.W.Frag) : V → V → Hp → VK → Prop := fun o i H Q => ∃ (p : Addr) (xs : List V) (k : Nat) (z : V), o = .ref p ∧ i = .int (k : Int) ∧ SqL K H p xs ∧ xs[k]? = some z ∧ k < 100000 ∧ Q z H
theorem pget_list {X : Cx} : PGet X (tgL X.K) := by
  intro pins s σ H o i ov iv Q I ro ri h
  obtain ⟨p, xs, k, z, rfl, rfl, hs, hk, lt, q⟩ := h
  cases ro
  obtain ⟨t, rfl⟩ := ri
  obtain ⟨its, r, pl, hz⟩ := I.list hs
  obtain ⟨w, ew, rw'⟩ := r.get hk
  exact wpAny_getItem_list pl.isList (by omega) (by omega) (by simpa using ew) ⟨z, H, I, rw', q⟩
def sAugIx (f : Int → Int → Int) (we : Ew) (wl : Lw) (wp : Pw) : Sw := fun D ρ => wl ρ fun p d => wp ρ fun j => match d, j with
  | .lst (some a) l, .int i => ∃ (k : Nat) (u : Int), i = (k : Int) ∧ k < 100000 ∧ l[k]? = some (.int u) ∧ we ρ (fun y ρ1 => match y with
    | .int v => getP ρ1 p = some (.lst (some a) l) ∧ D.nx (setP ρ1 p (.lst (some a) (l.set k (.int (f u v)))))
    | _ => False) D.xx
  | _, _ => False
section
variable {X : Cx} {W : WX} {o i e : Expr} {we : Ew} {wl : Lw} {wp : Pw} {op : Operator} {pos tpos : Pos} {f : Int → Int → Int}
theorem ds_augix (ho : DPath X o wl) (hi : DP X i wp) (he : DE X W e we) (hp : PIp X op (ipI f))
    (ha : ∀ ov iv new, augStore i ov iv new = (do holding [new, ov, iv] (setItem ov iv new); release [new, ov, iv] []; pure .next) := by intros; rfl) : DS X W (.AugAssign (.Subscript o i tpos) op e pos) (sAugIx f we wl wp) := by
  obtain ⟨te, pe', re⟩ := he
  obtain ⟨to, po', ro⟩ := ho
  obtain ⟨ti, pi', ri⟩ := hi
  refine ⟨_, ps_augS po' pi' pget_list pe' hp set_list ha, fun σ H Z ρ D DD s w fx => ?_⟩
  refine ro σ H Z ρ _ s w _ fun v p d wd hg rd => ?_
  refine ri σ H Z ρ _ s wd _ fun x j wj rj => ?_
  cases d with
  | lst m l => cases m with
    | none => cases j <;> exact wj.elim
    | some a => cases j with
      | int ii =>
        obtain ⟨k, u, rfl, lt, hu, wj⟩ := wj
        obtain ⟨ev, _⟩ := id rd
        obtain ⟨_, ⟨vs0, hv0, hr0⟩, _⟩ := s.relist hg
        obtain ⟨z, hz, rz⟩ := hr0.get hu
        refine ⟨a, vs0, k, z, ev, rj, SqL.of hv0, hz, lt, ?_⟩
        refine re σ H Z ρ _ _ s wj (fx.xx σ) _ fun y d ρ1 Z1 H1 w1 o1 => ?_
        cases d with
        | int vv =>
          obtain ⟨hg1, w1⟩ := w1
          refine ⟨u, vv, by rw [show z = .int u from rz], by rw [show y = .int vv from o1.rep], ?_⟩
          obtain ⟨za1, ⟨vs, hv, hr⟩, na1, na2, pm, re'⟩ := o1.st.relist hg1
          have hkl : k < l.length := (List.getElem?_eq_some_iff.mp hu).1
          have hbin : a ∈ eo ρ1 := pm.mem_iff.mpr (List.mem_cons_self ..)
          have nn : (a :: (owns l ++ eo (setP ρ1 p (lent a)))).Nodup := pm.nodup_iff.mp o1.st.nd
          have nd2 : (a :: owns (l.set k (.int (f u vv))) ++ eo (setP ρ1 p (lent a))).Nodup := by
            show (a :: (owns (l.set k (.int (f u vv))) ++ eo (setP ρ1 p (lent a)))).Nodup
            refine List.nodup_cons.mpr ⟨fun hc => ?_, owns_set_nodup hkl (by show ([] ++ (owns l ++ eo (setP ρ1 p (lent a)))).Nodup; exact (List.nodup_cons.mp nn).2)⟩
            rcases List.mem_append.mp hc with z | z
            · rcases owns_set_mem z with z | z
              · exact na1 z
              · cases z
            · exact na2 z
          obtain ⟨s2, pm2⟩ := re' (l.set k (.int (f u vv))) (vs.set k (.int (f u vv))) ((hr.upd_out na1).set rfl) nd2
          have hk2 : ixN vs.length (k : Int) = some k := by
            unfold ixN
            rw [hr.length, if_pos (by omega), if_pos (by omega)]; rfl
          refine ⟨a, vs, (k : Int), k, ev, rj, hv, hk2, ?_⟩
          refine fx.nx σ _ Z1 _ w1 ⟨s2, (o1.step.sub fun c hc => List.mem_append_right _ hc).trans (step_upd hbin fun c hc => .inl ?_)⟩
          have hm := pm2.mem_iff.mp hc
          simp only [List.cons_append, List.mem_cons, List.mem_append] at hm
          rcases hm with z | z | z
          · rw [z]; exact hbin
          · rcases owns_set_mem z with z | z
            · exact pm.mem_iff.mpr (List.mem_append_left _ (List.mem_cons_of_mem _ z))
            · cases z
          · exact pm.mem_iff.mpr (List.mem_append_right _ z)
        | _ => exact w1.elim
      | _ => exact wj.elim
  | _ => cases j <;> exact wj.elim
end
def AugIxQ (f : Int → Int → Int) (we : Ew) (nx : Env → Prop) (xx : QX) (ρ : Env) (p : Path) (d : D) (j : D) : Prop := match d, j with
  | .lst (some a) l, .int i => ∃ (k : Nat) (u : Int), i = (k : Int) ∧ k < 100000 ∧ l[k]? = some (.int u) ∧ we ρ (fun y ρ1 => match y with
    | .int v => getP ρ1 p = some (.lst (some a) l) ∧ nx (setP ρ1 p (.lst (some a) (l.set k (.int (f u v)))))
    | _ => False) xx
  | _, _ => False
def AugIxR (f : Int → Int → Int) (u : Int) (k : Nat) (a : Addr) (l : List D) (p : Path) (nx : Env → Prop) (y : D) (ρ1 : Env) : Prop := match y with
    | .int v => getP ρ1 p = some (.lst (some a) l) ∧ nx (setP ρ1 p (.lst (some a) (l.set k (.int (f u v)))))
    | _ => False
section
variable {o0 o1 o2 o3 o4 o5 o6 o7 o8 o9 o10 o11 o12 o13 o14 o15 o16 o17 o18 o19 o20 o21 o22 o23 o24 o25 o26 o27 o28 o29 o30 oo : Option D}
variable {wa wb wp wq wr : Pw} {we wf : Ew} {wt wu : Tw} {ws : Aw} {wi : Iw} {wl : Lw} {g : Gw} {gs : List D → Env → (Env → Prop) → Prop} {ρ : Env} {x y z d e : D} {i j n : Int} {k m : Nat} {l r ds : List D} {as : List Arg} {Q : D → Env → Prop} {QB : Bool → Env → Prop} {QA : List Arg → Env → Prop} {QI : List D → Env → Prop} {QE : Env → Prop} {Qx : QX} {R : D → Prop} {RB : Bool → Prop} {RO : Option Int → Prop} {RL : List D → Prop} {RE : List D → Env → Prop} {D0 : DEnds} {w1 w2 : Sw} {dsp : DSp} {rd : RD} {rdl : List D → (D → Prop) → Prop} {gg : Int → Int → D} {g2 : Int → Int → Int} {C : Int → Int → Prop} {A B : Prop} {b : Bool} {p : Prop} {a : Addr} {ma : Option Addr} {s t : Str} {nx ct bk : Env → Prop} {rt : D → Env → Prop} {xx : QX} {is : List Int} {pt : Path} {lo hi : Option Pw} {vs : List Nat} {ff : Nat → D → D}

theorem augIx {f : Int → Int → Int} {u : Int} {p : Path} (k : Nat) (hi : i = (k : Int)) (lt : k < 100000) (hu : l[k]? = some (.int u)) (q : Ev (we ρ (AugIxR f u k a l p nx) xx)) : Ev (AugIxQ f we nx xx ρ p (.lst (some a) l) (.int i)) := ⟨k, u, hi, lt, hu, q⟩
theorem ev_augix {f : Int → Int → Int} : Ev (sAugIx f we wl wp ⟨nx, rt, bk, ct, xx⟩ ρ) = Ev (wl ρ fun p d => wp ρ (AugIxQ f we nx xx ρ p d)) := rfl
theorem ev_augixr0 {f : Int → Int → Int} {u v : Int} : Ev (AugIxR f u m a l (0, []) nx (.int v) (some (.lst (some a) l) :: ρ)) = Ev (nx (some (.lst (some a) (l.set m (.int (f u v)))) :: ρ)) := propext ⟨fun h => h.2, fun h => ⟨rfl, h⟩⟩
theorem ev_augixr1 {f : Int → Int → Int} {u v : Int} : Ev (AugIxR f u m a l (1, []) nx (.int v) (o0 :: some (.lst (some a) l) :: ρ)) = Ev (nx (o0 :: some (.lst (some a) (l.set m (.int (f u v)))) :: ρ)) := propext ⟨fun h => h.2, fun h => ⟨rfl, h⟩⟩
theorem ev_augixr2 {f : Int → Int → Int} {u v : Int} : Ev (AugIxR f u m a l (2, []) nx (.int v) (o0 :: o1 :: some (.lst (some a) l) :: ρ)) = Ev (nx (o0 :: o1 :: some (.lst (some a) (l.set m (.int (f u v)))) :: ρ)) := propext ⟨fun h => h.2, fun h => ⟨rfl, h⟩⟩
theorem ev_augixr3 {f : Int → Int → Int} {u v : Int} : Ev (AugIxR f u m a l (3, []) nx (.int v) (o0 :: o1 :: o2 :: some (.lst (some a) l) :: ρ)) = Ev (nx (o0 :: o1 :: o2 :: some (.lst (some a) (l.set m (.int (f u v)))) :: ρ)) := propext ⟨fun h => h.2, fun h => ⟨rfl, h⟩⟩
theorem ev_augixr4 {f : Int → Int → Int} {u v : Int} : Ev (AugIxR f u m a l (4, []) nx (.int v) (o0 :: o1 :: o2 :: o3 :: some (.lst (some a) l) :: ρ)) = Ev (nx (o0 :: o1 :: o2 :: o3 :: some (.lst (some a) (l.set m (.int (f u v)))) :: ρ)) := propext ⟨fun h => h.2, fun h => ⟨rfl, h⟩⟩
theorem ev_augixr5 {f : Int → Int → Int} {u v : Int} : Ev (AugIxR f u m a l (5, []) nx (.int v) (o0 :: o1 :: o2 :: o3 :: o4 :: some (.lst (some a) l) :: ρ)) = Ev (nx (o0 :: o1 :: o2 :: o3 :: o4 :: some (.lst (some a) (l.set m (.int (f u v)))) :: ρ)) := propext ⟨fun h => h.2, fun h => ⟨rfl, h⟩⟩
theorem ev_augixr6 {f : Int → Int → Int} {u v : Int} : Ev (AugIxR f u m a l (6, []) nx (.int v) (o0 :: o1 :: o2 :: o3 :: o4 :: o5 :: some (.lst (some a) l) :: ρ)) = Ev (nx (o0 :: o1 :: o2 :: o3 :: o4 :: o5 :: some (.lst (some a) (l.set m (.int (f u v)))) :: ρ)) := propext ⟨fun h => h.2, fun h => ⟨rfl, h⟩⟩
theorem ev_augixr7 {f : Int → Int → Int} {u v : Int} : Ev (AugIxR f u m a l (7, []) nx (.int v) (o0 :: o1 :: o2 :: o3 :: o4 :: o5 :: o6 :: some (.lst (some a) l) :: ρ)) = Ev (nx (o0 :: o1 :: o2 :: o3 :: o4 :: o5 :: o6 :: some (.lst (some a) (l.set m (.int (f u v)))) :: ρ)) := propext ⟨fun h => h.2, fun h => ⟨rfl, h⟩⟩
theorem ev_augixr8 {f : Int → Int → Int} {u v : Int} : Ev (AugIxR f u m a l (8, []) nx (.int v) (o0 :: o1 :: o2 :: o3 :: o4 :: o5 :: o6 :: o7 :: some (.lst (some a) l) :: ρ)) = Ev (nx (o0 :: o1 :: o2 :: o3 :: o4 :: o5 :: o6 :: o7 :: some (.lst (some a) (l.set m (.int (f u v)))) :: ρ)) := propext ⟨fun h => h.2, fun h => ⟨rfl, h⟩⟩
theorem ev_augixr9 {f : Int → Int → Int} {u v : Int} : Ev (AugIxR f u m a l (9, []) nx (.int v) (o0 :: o1 :: o2 :: o3 :: o4 :: o5 :: o6 :: o7 :: o8 :: some (.lst (some a) l) :: ρ)) = Ev (nx (o0 :: o1 :: o2 :: o3 :: o4 :: o5 :: o6 :: o7 :: o8 :: some (.lst (some a) (l.set m (.int (f u v)))) :: ρ)) := propext ⟨fun h => h.2, fun h => ⟨rfl, h⟩⟩
theorem ev_augixr10 {f : Int → Int → Int} {u v : Int} : Ev (AugIxR f u m a l (10, []) nx (.int v) (o0 :: o1 :: o2 :: o3 :: o4 :: o5 :: o6 :: o7 :: o8 :: o9 :: some (.lst (some a) l) :: ρ)) = Ev (nx (o0 :: o1 :: o2 :: o3 :: o4 :: o5 :: o6 :: o7 :: o8 :: o9 :: some (.lst (some a) (l.set m (.int (f u v)))) :: ρ)) := propext ⟨fun h => h.2, fun h => ⟨rfl, h⟩⟩
theorem ev_augixr11 {f : Int → Int → Int} {u v : Int} : Ev (AugIxR f u m a l (11, []) nx (.int v) (o0 :: o1 :: o2 :: o3 :: o4 :: o5 :: o6 :: o7 :: o8 :: o9 :: o10 :: some (.lst (some a) l) :: ρ)) = Ev (nx (o0 :: o1 :: o2 :: o3 :: o4 :: o5 :: o6 :: o7 :: o8 :: o9 :: o10 :: some (.lst (some a) (l.set m (.int (f u v)))) :: ρ)) := propext ⟨fun h => h.2, fun h => ⟨rfl, h⟩⟩
theorem ev_augixr12 {f : Int → Int → Int} {u v : Int} : Ev (AugIxR f u m a l (12, []) nx (.int v) (o0 :: o1 :: o2 :: o3 :: o4 :: o5 :: o6 :: o7 :: o8 :: o9 :: o10 :: o11 :: some (.lst (some a) l) :: ρ)) = Ev (nx (o0 :: o1 :: o2 :: o3 :: o4 :: o5 :: o6 :: o7 :: o8 :: o9 :: o10 :: o11 :: some (.lst (some a) (l.set m (.int (f u v)))) :: ρ)) := propext ⟨fun h => h.2, fun h => ⟨rfl, h⟩⟩
theorem ev_augixr13 {f : Int → Int → Int} {u v : Int} : Ev (AugIxR f u m a l (13, []) nx (.int v) (o0 :: o1 :: o2 :: o3 :: o4 :: o5 :: o6 :: o7 :: o8 :: o9 :: o10 :: o11 :: o12 :: some (.lst (some a) l) :: ρ)) = Ev (nx (o0 :: o1 :: o2 :: o3 :: o4 :: o5 :: o6 :: o7 :: o8 :: o9 :: o10 :: o11 :: o12 :: some (.lst (some a) (l.set m (.int (f u v)))) :: ρ)) := propext ⟨fun h => h.2, fun h => ⟨rfl, h⟩⟩
theorem ev_augixr14 {f : Int → Int → Int} {u v : Int} : Ev (AugIxR f u m a l (14, []) nx (.int v) (o0 :: o1 :: o2 :: o3 :: o4 :: o5 :: o6 :: o7 :: o8 :: o9 :: o10 :: o11 :: o12 :: o13 :: some (.lst (some a) l) :: ρ)) = Ev (nx (o0 :: o1 :: o2 :: o3 :: o4 :: o5 :: o6 :: o7 :: o8 :: o9 :: o10 :: o11 :: o12 :: o13 :: some (.lst (some a) (l.set m (.int (f u v)))) :: ρ)) := propext ⟨fun h => h.2, fun h => ⟨rfl, h⟩⟩
theorem ev_augixr15 {f : Int → Int → Int} {u v : Int} : Ev (AugIxR f u m a l (15, []) nx (.int v) (o0 :: o1 :: o2 :: o3 :: o4 :: o5 :: o6 :: o7 :: o8 :: o9 :: o10 :: o11 :: o12 :: o13 :: o14 :: some (.lst (some a) l) :: ρ)) = Ev (nx (o0 :: o1 :: o2 :: o3 :: o4 :: o5 :: o6 :: o7 :: o8 :: o9 :: o10 :: o11 :: o12 :: o13 :: o14 :: some (.lst (some a) (l.set m (.int (f u v)))) :: ρ)) := propext ⟨fun h => h.2, fun h => ⟨rfl, h⟩⟩
theorem ev_augixr16 {f : Int → Int → Int} {u v : Int} : Ev (AugIxR f u m a l (16, []) nx (.int v) (o0 :: o1 :: o2 :: o3 :: o4 :: o5 :: o6 :: o7 :: o8 :: o9 :: o10 :: o11 :: o12 :: o13 :: o14 :: o15 :: some (.lst (some a) l) :: ρ)) = Ev (nx (o0 :: o1 :: o2 :: o3 :: o4 :: o5 :: o6 :: o7 :: o8 :: o9 :: o10 :: o11 :: o12 :: o13 :: o14 :: o15 :: some (.lst (some a) (l.set m (.int (f u v)))) :: ρ)) := propext ⟨fun h => h.2, fun h => ⟨rfl, h⟩⟩
theorem ev_augixr17 {f : Int → Int → Int} {u v : Int} : Ev (AugIxR f u m a l (17, []) nx (.int v) (o0 :: o1 :: o2 :: o3 :: o4 :: o5 :: o6 :: o7 :: o8 :: o9 :: o10 :: o11 :: o12 :: o13 :: o14 :: o15 :: o16 :: some (.lst (some a) l) :: ρ)) = Ev (nx (o0 :: o1 :: o2 :: o3 :: o4 :: o5 :: o6 :: o7 :: o8 :: o9 :: o10 :: o11 :: o12 :: o13 :: o14 :: o15 :: o16 :: some (.lst (some a) (l.set m (.int (f u v)))) :: ρ)) := propext ⟨fun h => h.2, fun h => ⟨rfl, h⟩⟩
theorem ev_augixr18 {f : Int → Int → Int} {u v : Int} : Ev (AugIxR f u m a l (18, []) nx (.int v) (o0 :: o1 :: o2 :: o3 :: o4 :: o5 :: o6 :: o7 :: o8 :: o9 :: o10 :: o11 :: o12 :: o13 :: o14 :: o15 :: o16 :: o17 :: some (.lst (some a) l) :: ρ)) = Ev (nx (o0 :: o1 :: o2 :: o3 :: o4 :: o5 :: o6 :: o7 :: o8 :: o9 :: o10 :: o11 :: o12 :: o13 :: o14 :: o15 :: o16 :: o17 :: some (.lst (some a) (l.set m (.int (f u v)))) :: ρ)) := propext ⟨fun h => h.2, fun h => ⟨rfl, h⟩⟩
theorem ev_augixr19 {f : Int → Int → Int} {u v : Int} : Ev (AugIxR f u m a l (19, []) nx (.int v) (o0 :: o1 :: o2 :: o3 :: o4 :: o5 :: o6 :: o7 :: o8 :: o9 :: o10 :: o11 :: o12 :: o13 :: o14 :: o15 :: o16 :: o17 :: o18 :: some (.lst (some a) l) :: ρ)) = Ev (nx (o0 :: o1 :: o2 :: o3 :: o4 :: o5 :: o6 :: o7 :: o8 :: o9 :: o10 :: o11 :: o12 :: o13 :: o14 :: o15 :: o16 :: o17 :: o18 :: some (.lst (some a) (l.set m (.int (f u v)))) :: ρ)) := propext ⟨fun h => h.2, fun h => ⟨rfl, h⟩⟩
end
/-! ### min and max of three ints -/
def rdI3 (f : Int → Int → Int → Int) : List D → (D → Prop) → Prop := fun ds Q => match ds with
  | [.int i, .int j, .int k] => Q (.int (f i j k))
  | _ => False
theorem dc_min3 {X : Cx} (hc : X.calm = true) : DCall X (.builtin "min") (rdI3 fun i j k => min (min i j) k) := by
  refine ⟨_, call_min3Nu hc, fun Z H ds vs Q hs rs w QQ q => ?_⟩
  unfold rdI3 at w
  split at w
  · rename_i i j k
    obtain ⟨v, vr, e, r1, v2, vr2, e2, r2, v3, vr3, e3, r3, r4⟩ := rs
    refine ⟨.int i, .int j, .int k, .int (min (min i j) k), by rw [e, show v = .int i from r1, e2, show v2 = .int j from r2, e3, show v3 = .int k from r3, show vr3 = [] from r4], ?_, q _ _ w rfl rfl⟩
    have t : ∀ x y : Int, nuMin2 (.int x) (.int y) = some (.int (min x y)) := fun x y => by
      show (some (decide (y < x))).map (fun c => if c = true then V.int y else V.int x) = _
      by_cases h : y < x
      · rw [decide_eq_true h]; show some (V.int y) = _; rw [show min x y = y by omega]
      · rw [decide_eq_false h]; show some (V.int x) = _; rw [show min x y = x by omega]
    show (nuMin2 (.int i) (.int j)).bind (fun m => nuMin2 m (.int k)) = _
    rw [t]; exact t _ _
  · exact w.elim
theorem ev_rdI3 {f : Int → Int → Int → Int} {i j k : Int} {R : D → Prop} : Ev (rdI3 f [.int i, .int j, .int k] R) = Ev (R (.int (f i j k))) := rfl
/-! ### xs[e] = c, the place any expression that leaves the list where it is, the value an int without effects -/
def sSetIxE (wv : Pw) (wl : Lw) (wi : Ew) : Sw := fun D ρ => wv ρ fun y => wl ρ fun p d => match y, d with
  | .int c, .lst (some a) l => wi ρ (fun j ρ1 => match j with
    | .int i => ∃ k : Nat, i = (k : Int) ∧ k < l.length ∧ getP ρ1 p = some (.lst (some a) l) ∧ D.nx (setP ρ1 p (.lst (some a) (l.set k (.int c))))
    | _ => False) D.xx
  | _, _ => False
section
variable {X : Cx} {W : WX} {o i e : Expr} {wv : Pw} {wl : Lw} {wi : Ew} {pos tpos : Pos}
theorem ds_setixE (he : DP X e wv) (ho : DPath X o wl) (hi : DE X W i wi) (hs : swapsWithSole [.Subscript o i tpos] e pos.line X.env = pure false := by rfl) (hw : swappedStores [.Subscript o i tpos] e X.env = pure none := by rfl) (h1 : (assignEach [.Subscript o i tpos] X.env).map (·.2) = [assign (.Subscript o i tpos) X.env] := by rfl)
    (hpg : ∀ {to ti : TE} {t : TSet}, PE X o to → PE X i ti → PSet X t → PG X (.Subscript o i tpos) (gSub to ti t)) : DS X W (.Assign [.Subscript o i tpos] e pos) (sSetIxE wv wl wi) := by
  obtain ⟨te, pe', re⟩ := he
  obtain ⟨to, po', ro⟩ := ho
  obtain ⟨ti, pi', ri⟩ := hi
  refine ⟨_, ps_asg pe' (hpg po' pi' set_list) hs hw h1, fun σ H Z ρ D DD s w fx => ?_⟩
  refine re σ H Z ρ _ s w _ fun uy y wy ry => ?_
  refine ro σ H Z ρ _ s wy _ fun v p d wd hg rd => ?_
  cases y with
  | int c => cases d with
    | lst m l => cases m with
      | none => exact wd.elim
      | some a =>
        obtain ⟨ev, _⟩ := id rd
        refine ri σ H Z ρ _ _ s wd (fx.xx σ) _ fun x j ρ1 Z1 H1 w1 o1 => ?_
        cases j with
        | int ii =>
          obtain ⟨k, rfl, hkl, hg1, w1⟩ := w1
          obtain ⟨za1, ⟨vs, hv, hr⟩, na1, na2, pm, re'⟩ := o1.st.relist hg1
          have hbin : a ∈ eo ρ1 := pm.mem_iff.mpr (List.mem_cons_self ..)
          have nn : (a :: (owns l ++ eo (setP ρ1 p (lent a)))).Nodup := pm.nodup_iff.mp o1.st.nd
          have nd2 : (a :: owns (l.set k (.int c)) ++ eo (setP ρ1 p (lent a))).Nodup := by
            show (a :: (owns (l.set k (.int c)) ++ eo (setP ρ1 p (lent a)))).Nodup
            refine List.nodup_cons.mpr ⟨fun hc => ?_, owns_set_nodup hkl (by show ([] ++ (owns l ++ eo (setP ρ1 p (lent a)))).Nodup; exact (List.nodup_cons.mp nn).2)⟩
            rcases List.mem_append.mp hc with z | z
            · rcases owns_set_mem z with z | z
              · exact na1 z
              · cases z
            · exact na2 z
          obtain ⟨s2, pm2⟩ := re' (l.set k (.int c)) (vs.set k (.int c)) ((hr.upd_out na1).set rfl) nd2
          have hk2 : ixN vs.length (k : Int) = some k := by
            unfold ixN
            rw [hr.length, if_pos (by omega), if_pos (by omega)]; rfl
          rw [show uy = .int c from ry]
          refine ⟨a, vs, (k : Int), k, ev, o1.rep, hv, hk2, ?_⟩
          refine fx.nx σ _ Z1 _ w1 ⟨s2, (o1.step.sub fun c hc => List.mem_append_right _ hc).trans (step_upd hbin fun c hc => .inl ?_)⟩
          have hm := pm2.mem_iff.mp hc
          simp only [List.cons_append, List.mem_cons, List.mem_append] at hm
          rcases hm with z | z | z
          · rw [z]; exact hbin
          · rcases owns_set_mem z with z | z
            · exact pm.mem_iff.mpr (List.mem_append_left _ (List.mem_cons_of_mem _ z))
            · cases z
          · exact pm.mem_iff.mpr (List.mem_append_right _ z)
        | _ => exact w1.elim
    | _ => exact wd.elim
  | _ => cases d <;> exact wd.elim
end
def SetIxEQ (wi : Ew) (nx : Env → Prop) (xx : QX) (ρ : Env) (y : D) (p : Path) (d : D) : Prop := match y, d with
  | .int c, .lst (some a) l => wi ρ (fun j ρ1 => match j with
    | .int i => ∃ k : Nat, i = (k : Int) ∧ k < l.length ∧ getP ρ1 p = some (.lst (some a) l) ∧ nx (setP ρ1 p (.lst (some a) (l.set k (.int c))))
    | _ => False) xx
  | _, _ => False
def SetIxER (c : Int) (a : Addr) (l : List D) (p : Path) (nx : Env → Prop) (j : D) (ρ1 : Env) : Prop := match j with
    | .int i => ∃ k : Nat, i = (k : Int) ∧ k < l.length ∧ getP ρ1 p = some (.lst (some a) l) ∧ nx (setP ρ1 p (.lst (some a) (l.set k (.int c))))
    | _ => False
theorem ev_setixe {wv : Pw} {wl : Lw} {wi : Ew} {nx bk ct : Env → Prop} {rt : D → Env → Prop} {xx : QX} {ρ : Env} : Ev (sSetIxE wv wl wi ⟨nx, rt, bk, ct, xx⟩ ρ) = Ev (wv ρ fun y => wl ρ (SetIxEQ wi nx xx ρ y)) := rfl
theorem ev_setixeq {wi : Ew} {nx : Env → Prop} {xx : QX} {ρ : Env} {c : Int} {p : Path} {a : Addr} {l : List D} : Ev (SetIxEQ wi nx xx ρ (.int c) p (.lst (some a) l)) = Ev (wi ρ (SetIxER c a l p nx) xx) := rfl
theorem setIxE {c i : Int} {a : Addr} {l : List D} {p : Path} {nx : Env → Prop} {ρ1 : Env} (k : Nat) (hi : i = (k : Int)) (lt : k < l.length) (hg : getP ρ1 p = some (.lst (some a) l)) (q : Ev (nx (setP ρ1 p (.lst (some a) (l.set k (.int c)))))) : Ev (SetIxER c a l p nx (.int i) ρ1) := ⟨k, hi, lt, hg, q⟩
end DL
set_option Elab.async false
set_option linter.all false
set_option maxRecDepth 100000
namespace DL
open PySem PySem.Spec PyProof.Rows L2
/-! a list that is lent to be read alone: known for the length of the call, then owned again -/
mutual
/-- lengths of the lists that are owned -/
def oln : D → List Nat
  | .tup l => olns l
  | .lsk l => olns l
  | .lst (some _) l => l.length :: olns l
  | .lst none l => olns l
  | .dct _ _ l => olns l
  | .ins _ _ _ l => olns l
  | .hole => []
  | .non => []
  | .bl _ => []
  | .int _ => []
  | .str _ => []
  | .cv _ => []
def olns : List D → List Nat
  | [] => []
  | d :: r => oln d ++ olns r
end
mutual
/-- data that holds no list of these lengths -/
def Flt (n : List Nat) : D → Prop
  | .tup l => Flts n l
  | .lsk _ => False
  | .lst none l => l.length ∉ n ∧ Flts n l
  | .lst (some _) l => Flts n l
  | .dct none _ _ => False
  | .dct (some _) _ l => Flts n l
  | .ins none _ _ _ => False
  | .ins (some _) _ _ l => Flts n l
  | .hole => True
  | .non => True
  | .bl _ => True
  | .int _ => True
  | .str _ => True
  | .cv _ => True
def Flts (n : List Nat) : List D → Prop
  | [] => True
  | d :: r => Flt n d ∧ Flts n r
end
def Held (Z : Hp) (n : List Nat) (a : Addr) : Prop := (∃ vs, Z a = some (.lst vs) ∧ vs.length ∈ n) ∨ (∃ kvs, Z a = some (.dK kvs)) ∨ ∃ C dx fs, Z a = some (.ins C dx fs)
theorem Held.mem {Z : Hp} {n m : List Nat} {a : Addr} (h : Held Z n a) (s : ∀ k ∈ n, k ∈ m) : Held Z m a := by
  rcases h with ⟨vs, e, l⟩ | h | h
  · exact .inl ⟨vs, e, s _ l⟩
  · exact .inr (.inl h)
  · exact .inr (.inr h)
section
variable {K : PySem.W.Frag} {Z H Z' H' : Hp}
mutual
theorem Rep.held : ∀ (d : D) (v : V), Rep K Z H d v → ∀ a ∈ own d, Held H (oln d) a
  | .hole, v, _, a, h => by cases h
  | .non, v, _, a, h => by cases h
  | .bl _, v, _, a, h => by cases h
  | .int _, v, _, a, h => by cases h
  | .str _, v, _, a, h => by cases h
  | .cv _, v, _, a, h => by cases h
  | .tup l, v, r, a, h => by rw [show own (.tup l) = [] from r.1] at h; cases h
  | .lsk l, v, r, a, h => by rw [show own (.lsk l) = [] from r.1] at h; cases h
  | .lst none l, v, r, a, h => by rw [show own (.lst none l) = owns l from rfl, r.1] at h; cases h
  | .dct none ks l, v, r, a, h => by rw [show own (.dct none ks l) = owns l from rfl, r.1] at h; cases h
  | .ins none C ns l, v, r, a, h => by rw [show own (.ins none C ns l) = owns l from rfl, r.1] at h; cases h
  | .lst (some p) l, v, r, a, h => by
    obtain ⟨e, n, vs, hs, hr⟩ := r
    rcases List.mem_cons.mp (show a ∈ p :: owns l from h) with rfl | h
    · exact .inl ⟨vs, hs, by rw [hr.length]; exact List.mem_cons_self ..⟩
    · exact (Reps.held l vs hr a h).mem fun k hk => List.mem_cons_of_mem _ hk
  | .dct (some p) ks l, v, r, a, h => by
    obtain ⟨e, n, kvs, hs, hk, hr⟩ := r
    rcases List.mem_cons.mp (show a ∈ p :: owns l from h) with rfl | h
    · exact .inr (.inl ⟨kvs, hs⟩)
    · exact Reps.held l _ hr a h
  | .ins (some p) C ns l, v, r, a, h => by
    obtain ⟨e, n, dx, fs, hs, hk, hr⟩ := r
    rcases List.mem_cons.mp (show a ∈ p :: owns l from h) with rfl | h
    · exact .inr (.inr ⟨C, dx, fs, hs⟩)
    · exact Reps.held l _ hr a h
theorem Reps.held : ∀ (l : List D) (vs : List V), Reps K Z H l vs → ∀ a ∈ owns l, Held H (olns l) a
  | [], _, _, a, h => by cases h
  | d :: l, vs, r, a, h => by
    obtain ⟨v, vr, e, r1, r2⟩ := r
    rcases List.mem_append.mp (show a ∈ own d ++ owns l from h) with h | h
    · exact (Rep.held d v r1 a h).mem fun k hk => List.mem_append_left _ hk
    · exact (Reps.held l vr r2 a h).mem fun k hk => List.mem_append_right _ hk
end
/-- no longer known -/
def unk (Z : Hp) (F : List Addr) : Hp := fun a => if a ∈ F then none else Z a
theorem unk_in {F : List Addr} {a : Addr} (h : a ∈ F) : unk Z F a = none := by unfold unk; rw [if_pos h]
theorem unk_out {F : List Addr} {a : Addr} (h : a ∉ F) : unk Z F a = Z a := by unfold unk; rw [if_neg h]
theorem unk_le {F : List Addr} : Sub (unk Z F) Z := fun a o e => by
  by_cases h : a ∈ F
  · rw [unk_in h] at e; cases e
  · rw [unk_out h] at e; exact e
mutual
theorem Rep.unk {F : List Addr} {n : List Nat} (hk : ∀ a ∈ F, Held Z n a) : ∀ (d : D) (v : V), Flt n d → Rep K Z H d v → Rep K (DL.unk Z F) H d v
  | .hole, v, _, _ => trivial
  | .non, v, _, r => r
  | .bl _, v, _, r => r
  | .int _, v, _, r => r
  | .str _, v, _, r => r
  | .cv _, v, _, r => r
  | .tup l, v, f, r => by
    obtain ⟨m, a, vs, e, hs, hr⟩ := r
    refine ⟨m, a, vs, e, ?_, Reps.unk hk l vs f hr⟩
    rcases hs with hs | hs
    · left
      have no : a ∉ F := fun ha => by
        rcases hk a ha with ⟨ws, e, _⟩ | ⟨ws, e⟩ | ⟨C, dx, fs, e⟩ <;> rcases hs with h | ⟨o, h⟩ <;> rw [e] at h <;> cases h
      rcases hs with h | ⟨o, h⟩
      · exact .inl (by rw [unk_out no]; exact h)
      · exact .inr ⟨o, by rw [unk_out no]; exact h⟩
    · exact .inr hs
  | .lsk l, v, f, r => f.elim
  | .lst none l, v, f, r => by
    obtain ⟨m, a, vs, e, hs, hr⟩ := r
    have no : a ∉ F := fun ha => by
      rcases hk a ha with ⟨ws, e, hl⟩ | ⟨ws, e⟩ | ⟨C, dx, fs, e⟩
      · rw [hs] at e
        cases e
        rw [hr.length] at hl
        exact f.1 hl
      · rw [hs] at e; cases e
      · rw [hs] at e; cases e
    exact ⟨m, a, vs, e, by rw [unk_out no]; exact hs, Reps.unk hk l vs f.2 hr⟩
  | .lst (some p) l, v, f, r => by
    obtain ⟨e, m, vs, hs, hr⟩ := r
    have no : p ∉ F := fun ha => by
      rcases hk p ha with ⟨ws, e, _⟩ | ⟨ws, e⟩ | ⟨C, dx, fs, e⟩ <;> rw [m] at e <;> cases e
    exact ⟨e, by rw [unk_out no]; exact m, vs, hs, Reps.unk hk l vs f hr⟩
  | .dct none ks l, v, f, r => f.elim
  | .ins none C ns l, v, f, r => f.elim
  | .dct (some p) ks l, v, f, r => by
    obtain ⟨e, m, kvs, hs, hk', hr⟩ := r
    have no : p ∉ F := fun ha => by
      rcases hk p ha with ⟨ws, e, _⟩ | ⟨ws, e⟩ | ⟨C, dx, fs, e⟩ <;> rw [m] at e <;> cases e
    exact ⟨e, by rw [unk_out no]; exact m, kvs, hs, hk', Reps.unk hk l _ f hr⟩
  | .ins (some p) C ns l, v, f, r => by
    obtain ⟨e, m, dx, fs, hs, hk', hr⟩ := r
    have no : p ∉ F := fun ha => by
      rcases hk p ha with ⟨ws, e, _⟩ | ⟨ws, e⟩ | ⟨C, dx, fs, e⟩ <;> rw [m] at e <;> cases e
    exact ⟨e, by rw [unk_out no]; exact m, dx, fs, hs, hk', Reps.unk hk l _ f hr⟩
theorem Reps.unk {F : List Addr} {n : List Nat} (hk : ∀ a ∈ F, Held Z n a) : ∀ (l : List D) (vs : List V), Flts n l → Reps K Z H l vs → Reps K (DL.unk Z F) H l vs
  | [], _, _, r => r
  | d :: l, vs, f, r => by
    obtain ⟨v, vr, e, r1, r2⟩ := r
    exact ⟨v, vr, e, Rep.unk hk d v f.1 r1, Reps.unk hk l vr f.2 r2⟩
end
end
/-- the promise of a def whose lists are lent to be read -/
def bor (sp : DSp) : DSp := fun ds Qd Qx => sp (frzs ds) (fun d ds' => ds' = frzs ds ∧ Flt (olns ds) d ∧ Qd d ds) (fun x ds' => ds' = frzs ds ∧ Flts (olns ds) x.fs ∧ Qx x ds)
theorem lift_bor {K : PySem.W.Frag} {sp : DSp} : ∀ vs H Q E, lift K (bor sp) vs H Q E → lift K sp vs H Q E := by
  rintro vs H Q E ⟨Z, ds, Qd, Qx, hsub, reps, nd, h, kn, kx⟩
  have hF : ∀ a ∈ owns ds, Z a = none := fun a ha => (Reps.ownd ds vs reps a ha).1
  have hz : Sub Z (fz Z H (owns ds)) := fz_sub hF
  have hd : ∀ a ∈ owns ds, Held H (olns ds) a := Reps.held ds vs reps
  have of : owns (frzs ds) = [] := owns_frzs ds
  refine ⟨fz Z H (owns ds), frzs ds, _, _, fz_le hsub, Reps.frz hF ds vs (fun a ha => ha) reps, by rw [of]; exact List.nodup_nil, h, ?_, ?_⟩
  · rintro v d ds' Z' H' ⟨rfl, fl, q⟩ s' rs rd nd' st
    rw [of] at st nd'
    have hold : ∀ a ∈ owns ds, Z' a = H a := fun a ha => by
      cases e : H a with
      | none => exact absurd e (Reps.ownd ds vs reps a ha).2
      | some o => exact st.zz a o (by rw [fz_in ha]; exact e)
    have hk' : ∀ a ∈ owns ds, Held Z' (olns ds) a := fun a ha => by
      rcases hd a ha with ⟨ws, e, l⟩ | ⟨ws, e⟩ | ⟨C, dx, fs, e⟩
      · exact .inl ⟨ws, by rw [hold a ha]; exact e, l⟩
      · exact .inr (.inl ⟨ws, by rw [hold a ha]; exact e⟩)
      · exact .inr (.inr ⟨C, dx, fs, by rw [hold a ha]; exact e⟩)
    have dis : ∀ a ∈ own d, a ∉ owns ds := fun a ha hb => by
      have := (Rep.ownd d v rd a ha).1
      rcases hk' a hb with ⟨ws, e, l⟩ | ⟨ws, e⟩ | ⟨C, dx, fs, e⟩ <;> rw [this] at e <;> cases e
    have zz : Sub Z (unk Z' (owns ds)) := fun a o e => by
      have no : a ∉ owns ds := fun ha => by rw [hF a ha] at e; cases e
      rw [unk_out no]
      exact st.zz a o (hz a o e)
    refine kn v d ds (unk Z' (owns ds)) H' q (fun a o e => s' a o (unk_le a o e)) (Reps.mono zz ds vs (fun a ha o e => s' a o (by rw [hold a ha]; exact e)) (fun a ha => unk_in ha) reps) (Rep.unk hk' d v fl rd) ?_ ?_
    · rw [List.append_nil] at nd'
      exact List.nodup_append.mpr ⟨nd', nd, fun a ha b hb e => dis a ha (e ▸ hb)⟩
    · refine ⟨zz, fun a o e n => st.keep a o e (by simp), fun a ha => ?_, fun a hz0 h1 => ?_⟩
      · rcases List.mem_append.mp ha with ha | ha
        · rcases st.fre a (List.mem_append_left _ ha) with z | z
          · cases z
          · exact .inr z
        · exact .inl ha
      · by_cases ha : a ∈ owns ds
        · exact .inl ha
        · rw [unk_out ha] at h1
          rcases st.zfr a (by rw [fz_out ha]; exact hz0) h1 with z | z
          · cases z
          · exact .inr z
  · rintro x cls dd ds' Z' H' ⟨rfl, fl, q⟩ s' rs rd nd' st
    rw [of] at st nd'
    have hold : ∀ a ∈ owns ds, Z' a = H a := fun a ha => by
      cases e : H a with
      | none => exact absurd e (Reps.ownd ds vs reps a ha).2
      | some o => exact st.zz a o (by rw [fz_in ha]; exact e)
    have hk' : ∀ a ∈ owns ds, Held Z' (olns ds) a := fun a ha => by
      rcases hd a ha with ⟨ws, e, l⟩ | ⟨ws, e⟩ | ⟨C, dx, fs, e⟩
      · exact .inl ⟨ws, by rw [hold a ha]; exact e, l⟩
      · exact .inr (.inl ⟨ws, by rw [hold a ha]; exact e⟩)
      · exact .inr (.inr ⟨C, dx, fs, by rw [hold a ha]; exact e⟩)
    have zz : Sub Z (unk Z' (owns ds)) := fun a o e => by
      have no : a ∉ owns ds := fun ha => by rw [hF a ha] at e; cases e
      rw [unk_out no]
      exact st.zz a o (hz a o e)
    refine kx x cls dd ds (unk Z' (owns ds)) H' q (fun a o e => s' a o (unk_le a o e)) (Reps.mono zz ds vs (fun a ha o e => s' a o (by rw [hold a ha]; exact e)) (fun a ha => unk_in ha) reps) ?_ nd ?_
    · obtain ⟨x1, x2, x3⟩ := rd
      refine ⟨x1, x2, ?_⟩
      cases dd with
      | none => exact x3
      | some a =>
        obtain ⟨kvs, e, h1, h2⟩ := x3
        refine ⟨kvs, ?_, h1, Reps.unk hk' _ _ fl h2⟩
        rw [unk_out]
        · exact e
        · intro ha
          rcases hk' a ha with ⟨ws, z, l⟩ | ⟨ws, z⟩ | ⟨C, dx, fs, z⟩ <;> rw [e] at z <;> cases z
    · refine ⟨zz, fun a o e n => st.keep a o e (by simp), fun a ha => .inl ha, fun a hz0 h1 => ?_⟩
      by_cases ha : a ∈ owns ds
      · exact .inl ha
      · rw [unk_out ha] at h1
        rcases st.zfr a (by rw [fz_out ha]; exact hz0) h1 with z | z
        · cases z
        · exact .inr z
theorem FnOk.bor {P : Program} {w : World} {K : PySem.W.Frag} {mg : Str → Option Value} {base : Heap} {CX : CXT} {k : Nat} {f : Addr} {fd : FuncData} {ps : List Str} {sp : DSp} (F : FnOk P w K mg base CX k f fd ps (lift K sp)) : FnOk P w K mg base CX k f fd ps (lift K (DL.bor sp)) := L2.FnOk.imp F lift_bor
/-- .. told shortly -/
theorem bor_of {sp : DSp} {ds : List D} {Qd : D → List D → Prop} {Qx : XD → List D → Prop} (h : sp (frzs ds) (fun d ds' => ds' = frzs ds ∧ Flt (olns ds) d ∧ Qd d ds) (fun x ds' => ds' = frzs ds ∧ Flts (olns ds) x.fs ∧ Qx x ds)) : bor sp ds Qd Qx := h
theorem frzs_ints (l : List Int) : frzs (l.map .int) = l.map .int := frzs_of _ (owns_map_nil (fun _ => rfl) l)
theorem flts_ints (n : List Nat) : ∀ l : List Int, Flts n (l.map .int)
  | [] => trivial
  | _ :: l => ⟨trivial, flts_ints n l⟩
end DL
namespace DL
open PySem PySem.Spec PyProof.Rows L2
theorem wipe_none : ∀ (vs : List Nat) (ρ : DL.Env) (v : Nat), v ∈ vs → ∀ o, (wipeE ρ vs)[v]? = some o → o = none
  | [], _, _, h, _, _ => by cases h
  | u :: vs, ρ, v, h, o, e => by
    unfold wipeE at e
    rw [List.getElem?_set] at e
    by_cases z : u = v
    · rw [if_pos z] at e
      split at e
      · exact (Option.some.inj e).symm
      · cases e
    · rw [if_neg z] at e
      rcases List.mem_cons.mp h with h | h
      · exact absurd h.symm z
      · exact wipe_none vs ρ v h o e
theorem set_none_same {ρ : DL.Env} {v : Nat} (h : ∀ o, ρ[v]? = some o → o = none) : ρ.set v none = ρ := by
  refine List.ext_getElem? fun i => ?_
  rw [List.getElem?_set]
  by_cases z : v = i
  · subst z
    rw [if_pos rfl]
    split
    · rename_i hl
      have e := List.getElem?_eq_getElem hl
      rw [h _ e] at e
      exact e.symm
    · rename_i hl
      exact (List.getElem?_eq_none (by omega)).symm
  · rw [if_neg z]
theorem wipe_same : ∀ (vs : List Nat) (ρ : DL.Env), (∀ v ∈ vs, ∀ o, ρ[v]? = some o → o = none) → wipeE ρ vs = ρ
  | [], _, _ => rfl
  | u :: vs, ρ, h => by
    unfold wipeE
    rw [wipe_same vs ρ fun v hv => h v (List.mem_cons_of_mem _ hv)]
    exact set_none_same (h u (List.mem_cons_self ..))
theorem wipe_wipe (vs : List Nat) (ρ : DL.Env) : wipeE (wipeE ρ vs) vs = wipeE ρ vs := wipe_same vs _ fun v hv o e => wipe_none vs ρ v hv o e
/-- a comprehension whose names stood for something before -/
theorem lcMapW {α : Type} {enc : α → D} {xs : List α} {ρ : DL.Env} {vs : List Nat} {g : Gw} {wt : Tw} {we : Ew} {Q : D → DL.Env → Prop} (c : α → Bool) (f : α → D) (hs : ∀ (i : Nat) x, xs[i]? = some x → Ev (g (enc x) (wipeE ρ vs) fun ρ3 => wt ρ3 (fun b ρ4 => IfB b (we ρ4 (LcYes xs c f (wipeE ρ vs) vs i) (fun _ _ => False)) (LcNo xs c f (wipeE ρ vs) vs i ρ4)) (fun _ _ => False)))
    (he : ∀ p ρ', (ρ' = ρ ∨ ρ' = wipeE ρ vs) → Ev (Q (.lst (some p) ((xs.filter c).map f)) ρ')) : Ev (LcS g wt we vs Q (xs.map enc) ρ) := by
  refine lcS (fun i acc ρ' => Nat.casesOn i (ρ' = ρ ∧ acc = []) (fun j => ρ' = wipeE ρ vs ∧ acc = ((xs.take (j + 1)).filter c).map f)) (And.intro rfl rfl) ?_ ?_
  · intro i d acc ρ2 hd hI
    obtain ⟨x, hx, rfl⟩ := getq_map hd
    have e : wipeE ρ2 vs = wipeE ρ vs ∧ acc = ((xs.take i).filter c).map f := by
      cases i with
      | zero => obtain ⟨rfl, rfl⟩ := hI; exact ⟨rfl, by simp⟩
      | succ i => obtain ⟨rfl, rfl⟩ := hI; exact ⟨wipe_wipe _ _, rfl⟩
    obtain ⟨e1, rfl⟩ := e
    show g _ (wipeE ρ2 vs) _
    rw [e1]
    exact hs i x hx
  · intro acc ρ2 hI p
    rw [List.length_map] at hI
    cases h : xs.length with
    | zero =>
      rw [h] at hI
      obtain ⟨rfl, rfl⟩ := hI
      have := he p ρ2 (.inl rfl)
      rw [List.length_eq_zero_iff.mp h] at this
      exact this
    | succ n =>
      rw [h] at hI
      obtain ⟨rfl, rfl⟩ := hI
      have := he p _ (.inr rfl)
      rw [← h, List.take_length]
      exact this
theorem lcRgW {lo : Int} {n : Nat} {ρ : DL.Env} {vs : List Nat} {g : Gw} {wt : Tw} {we : Ew} {Q : D → DL.Env → Prop} (c : Nat → Bool) (f : Nat → D) (hs : ∀ i : Nat, i < n → (List.range n)[i]? = some i → Ev (g (.int (lo + (i : Int))) (wipeE ρ vs) fun ρ3 => wt ρ3 (fun b ρ4 => IfB b (we ρ4 (LcYes (List.range n) c f (wipeE ρ vs) vs i) (fun _ _ => False)) (LcNo (List.range n) c f (wipeE ρ vs) vs i ρ4)) (fun _ _ => False)))
    (he : ∀ p ρ', (ρ' = ρ ∨ ρ' = wipeE ρ vs) → Ev (Q (.lst (some p) (((List.range n).filter c).map f)) ρ')) : Ev (LcS g wt we vs Q (iseq lo n) ρ) := by
  refine lcMapW (xs := List.range n) (enc := fun k : Nat => D.int (lo + (k : Int))) c f (fun i x hx => ?_) he
  have hi := lt_of_get hx
  rw [List.length_range] at hi
  have e : i = x := by
    rw [List.getElem?_range hi] at hx
    exact Option.some.inj hx
  subst e
  exact hs i hi hx
end DL
set_option Elab.async false
set_option linter.all false
set_option maxRecDepth 100000
namespace Qk68
open PySem PySem.Spec PyProof.Rows L2 DL
abbrev N_is_ring : List Str := ["rows"]
def w_is_ring  : Sw :=
    (sRet (ePure (pChain rdLe rdLe (pC (.int 2)) (pLen (pVar 0)) (pC (.int 24)))))
abbrev N_excesses : List Str := ["flows", "port", "flow"]
def w_excesses  : Sw :=
    (sRet (eLc (iEnumS (ePure (pVar 0))) (gTp (gsCons (gNm 1) (gsCons (gNm 2) gsNil)) 2) tAll (ePure (pOp rdSub (pVar 2) (pIx (pVar 0) (pOp rdSub (pVar 1) (pC (.int 1)))))) [1, 2]))
abbrev N_next_move : List Str := ["flows", "many", "excess", "starts", "port", "start", "step", "stop", "legs", "count"]
def w_next_move (sp_excesses : DSp) : Sw :=
    (sSeq (sSet 1 (ePure (pLen (pVar 0))))
    (sSeq (sSet 2 (wCall sp_excesses (aVal (ePure (pVar 0)) aNil)))
    (sSeq (sSet 3 (eLc (iRg1 (aVal (ePure (pVar 1)) aNil)) (gNm 4) (tPure rdGt (pIx (pVar 2) (pVar 4)) (pC (.int 0))) (ePure (pVar 4)) [4]))
    (sSeq (sIf (tNotD (tTruP (pVar 3))) (sRet (ePure (pC .non))) sNext)
    (sSeq (sSet 5 (ePure (pIx (pVar 3) (pC (.int 0)))))
    (sSeq (sSet 6 (eIf (tPure rdGt (pIx (pVar 0) (pVar 5)) (pC (.int 0))) (ePure (pC (.int 1))) (ePure (pNeg (pC (.int 1))))))
    (sSeq (sSet 7 (ePure (pVar 5)))
    (sSeq (sSet 8 (eLst aNil))
    (sSeq (sWhile (tPure rdGe (pIx (pVar 2) (pVar 7)) (pC (.int 0))) (sSeq (sDrop (eApp (lVar 8) (eIf (tPure rdEq (pVar 6) (pC (.int 1))) (ePure (pVar 7)) (ePure (pOp rdMod (pOp rdSub (pVar 7) (pC (.int 1))) (pVar 1))))))
    (sSet 7 (ePure (pOp rdMod (pOp rdAdd (pVar 7) (pVar 6)) (pVar 1))))))
    (sSeq (sSet 9 (eCallB (rdI3 fun i j k => min (min i j) k) (aVal (ePure (pIx (pVar 2) (pVar 5))) (aVal (ePure (pNeg (pIx (pVar 2) (pVar 7)))) (aVal (eCallB rdAbs (aVal (ePure (pIx (pVar 0) (pIx (pVar 8) (pC (.int 0))))) aNil)) aNil)))))
    (sRet (eTup (aVal (eTup (aVal (ePure (pVar 5)) (aVal (eIf (tPure rdEq (pVar 6) (pC (.int 1))) (ePure (pC (.str "forward"))) (ePure (pC (.str "backward")))) (aVal (ePure (pVar 7)) (aVal (ePure (pVar 9)) aNil))))) (aVal (eFrz 8) aNil))))))))))))))
abbrev N_to_moves : List Str := ["flows", "left", "moves", "found", "move", "legs", "leg"]
def w_to_moves (sp_is_ring : DSp) (sp_next_move : DSp) (C_BadFlows : Addr) (C_AllUsed : Addr) : Sw :=
    (sSeq (sIf (tNotD (tTru (wCall sp_is_ring (aVal (ePure (pVar 0)) aNil)))) (sRaise0 C_BadFlows) sNext)
    (sSeq (sIf (tPure rdNotIn (pC (.int 0)) (pVar 0)) (sRaise0 C_AllUsed) sNext)
    (sSeq (sSet 1 (eListP (pVar 0)))
    (sSeq (sSet 2 (eLst aNil))
    (sSeq (sSet 3 (wCall (bor sp_next_move) (aLend (lVar 1) aNil)))
    (sSeq (sWhile (tPure rdNotN (pVar 3) (pC .non)) (sSeq (sAsg (ePure (pVar 3)) (gTp (gsCons (gNm 4) (gsCons (gNm 5) gsNil)) 2))
    (sSeq (sDrop (eApp (lVar 2) (ePure (pVar 4))))
    (sSeq (sFor (iLs (eFrz 5)) (gNm 6) (sAugIx (fun i j => i - j) (eIf (tPure rdEq (pIx (pVar 4) (pC (.int 1))) (pC (.str "forward"))) (ePure (pIx (pVar 4) (pC (.int 3)))) (ePure (pNeg (pIx (pVar 4) (pC (.int 3)))))) (lVar 1) (pVar 6)))
    (sSet 3 (wCall (bor sp_next_move) (aLend (lVar 1) aNil)))))))
    (sRet (eTupP (pVar 2)))))))))
abbrev N_law_pool : List Str := ["script", "cell"]
def w_law_pool  : Sw :=
    (sRet (eLst (aVal (eLc (iSq (ePure (pVar 0))) (gNm 1) tAll (eIf (tPure rdGe (pVar 1) (pC (.int 0))) (ePure (pOp rdMul (pC (.int 2)) (pVar 1))) (ePure (pOp rdSub (pOp rdMul (pNeg (pC (.int 2))) (pVar 1)) (pC (.int 1))))) [1]) (aVal (ePure (pC (.int 0))) (aVal (ePure (pC (.int 0))) (aVal (ePure (pC (.int 17))) aNil))))))
abbrev N_law_take : List Str := ["pool", "many", "digit", "cell", "mixed"]
def w_law_take (sp_law_take : DSp) : Sw :=
    (sSeq (sIf (tPure rdGt (pIx (pVar 0) (pC (.int 2))) (pC (.int 0))) (sSeq (sSet 2 (eOp rdMod (eCallB rdInt (aVal (ePure (pIx (pVar 0) (pC (.int 2)))) aNil)) (ePure (pVar 1))))
    (sSeq (sSetIx (ePure (pOp rdFdiv (pIx (pVar 0) (pC (.int 2))) (pVar 1))) (lVar 0) (pC (.int 2)))
    (sRet (ePure (pVar 2))))) sNext)
    (sSeq (sSet 3 (ePure (pC (.int 0))))
    (sSeq (sIf (tPure rdLt (pIx (pVar 0) (pC (.int 1))) (pLen (pIx (pVar 0) (pC (.int 0))))) (sSet 3 (ePure (pIx (pIx (pVar 0) (pC (.int 0))) (pIx (pVar 0) (pC (.int 1)))))) sNext)
    (sSeq (sSetIx (ePure (pOp rdAdd (pIx (pVar 0) (pC (.int 1))) (pC (.int 1)))) (lVar 0) (pC (.int 1)))
    (sSeq (sIf (tPure rdGe (pVar 3) (pOp rdPow (pC (.int 10)) (pC (.int 18)))) (sSeq (sSetIx (ePure (pOp rdFdiv (pVar 3) (pC (.int 2)))) (lVar 0) (pC (.int 2)))
    (sRet (wCall sp_law_take (aLend (lVar 0) (aVal (ePure (pVar 1)) aNil))))) sNext)
    (sSeq (sSetIx (eOp rdMod (eCallB rdInt (aVal (ePure (pOp rdAdd (pOp rdAdd (pOp rdMul (pIx (pVar 0) (pC (.int 3))) (pC (.int 48271))) (pOp rdMul (pVar 3) (pC (.int 69621)))) (pOp rdMul (pIx (pVar 0) (pC (.int 1))) (pC (.int 613))))) aNil)) (ePure (pC (.int 2147483647)))) (lVar 0) (pC (.int 3)))
    (sSeq (sSet 4 (eOp rdMod (eCallB rdInt (aVal (ePure (pOp rdAdd (pOp rdAdd (pOp rdMul (pIx (pVar 0) (pC (.int 3))) (pIx (pVar 0) (pC (.int 3)))) (pOp rdMul (pIx (pVar 0) (pC (.int 3))) (pC (.int 7919)))) (pC (.int 104729)))) aNil)) (ePure (pC (.int 1000000007)))))
    (sRet (eOp rdMod (eCallB rdInt (aVal (ePure (pOp rdFdiv (pVar 4) (pC (.int 3)))) aNil)) (ePure (pVar 1)))))))))))
abbrev N_law_is_integer : List Str := ["actual"]
def w_law_is_integer  : Sw :=
    (sRet (eAnd (eCallB rdIsi (aVal (ePure (pVar 0)) (aVal (ePure (pC (.cv (.ty "int")))) aNil))) (eNot (eCallB rdIsi (aVal (ePure (pVar 0)) (aVal (ePure (pC (.cv (.ty "bool")))) aNil))))))
abbrev N_law_same : List Str := ["actual", "due", "k"]
def w_law_same (sp_law_same : DSp) (sp_law_is_integer : DSp) : Sw :=
    (sSeq (sIf (tTru (eCallB rdIsi (aVal (ePure (pVar 1)) (aVal (ePure (pC (.cv (.ty "tuple")))) aNil)))) (sSeq (sIf (tOrD (tNotD (tTru (eCallB rdIsi (aVal (ePure (pVar 0)) (aVal (ePure (pC (.cv (.ty "tuple")))) aNil))))) (tPure rdNe (pLen (pVar 0)) (pLen (pVar 1)))) (sRet (ePure (pC (.bl false)))) sNext)
    (sRet (eCallB rdAll (aVal (eKeep (eLc (iRg1 (aVal (ePure (pLen (pVar 1))) aNil)) (gNm 2) tAll (wCall sp_law_same (aVal (ePure (pIx (pVar 0) (pVar 2))) (aVal (ePure (pIx (pVar 1) (pVar 2))) aNil))) [2])) aNil)))) sNext)
    (sSeq (sIf (tTru (eCallB rdIsi (aVal (ePure (pVar 1)) (aVal (ePure (pC (.cv (.ty "list")))) aNil)))) (sSeq (sIf (tOrD (tNotD (tTru (eCallB rdIsi (aVal (ePure (pVar 0)) (aVal (ePure (pC (.cv (.ty "list")))) aNil))))) (tPure rdNe (pLen (pVar 0)) (pLen (pVar 1)))) (sRet (ePure (pC (.bl false)))) sNext)
    (sRet (eCallB rdAll (aVal (eKeep (eLc (iRg1 (aVal (ePure (pLen (pVar 1))) aNil)) (gNm 2) tAll (wCall sp_law_same (aVal (ePure (pIx (pVar 0) (pVar 2))) (aVal (ePure (pIx (pVar 1) (pVar 2))) aNil))) [2])) aNil)))) sNext)
    (sSeq (sIf (tPure rdIsN (pVar 1) (pC .non)) (sRet (ePure (pOp rdIsN (pVar 0) (pC .non)))) sNext)
    (sSeq (sIf (tTru (eCallB rdIsi (aVal (ePure (pVar 1)) (aVal (ePure (pC (.cv (.ty "bool")))) aNil)))) (sRet (eAnd (eCallB rdIsi (aVal (ePure (pVar 0)) (aVal (ePure (pC (.cv (.ty "bool")))) aNil))) (ePure (pOp rdEq (pVar 0) (pVar 1))))) sNext)
    (sSeq (sIf (tTru (eCallB rdIsi (aVal (ePure (pVar 1)) (aVal (ePure (pC (.cv (.ty "str")))) aNil)))) (sRet (eAnd (eCallB rdIsi (aVal (ePure (pVar 0)) (aVal (ePure (pC (.cv (.ty "str")))) aNil))) (ePure (pOp rdEq (pVar 0) (pVar 1))))) sNext)
    (sRet (eAnd (wCall sp_law_is_integer (aVal (ePure (pVar 0)) aNil)) (ePure (pOp rdEq (pVar 0) (pVar 1))))))))))
abbrev N_law_excesses : List Str := ["flows", "k"]
def w_law_excesses  : Sw :=
    (sRet (eLc (iRg1 (aVal (ePure (pLen (pVar 0))) aNil)) (gNm 1) tAll (ePure (pOp rdSub (pIx (pVar 0) (pVar 1)) (pIx (pVar 0) (pOp rdSub (pVar 1) (pC (.int 1)))))) [1]))
abbrev N_law_laid : List Str := ["flows", "moves", "many", "found", "start", "direction", "stop", "count", "port", "turn", "leg"]
def w_law_laid  : Sw :=
    (sSeq (sSet 2 (ePure (pLen (pVar 0))))
    (sSeq (sSet 3 (eRep (eLst (aVal (ePure (pC (.int 0))) aNil)) (ePure (pVar 2))))
    (sSeq (sFor (iSq (ePure (pVar 1))) (gTp (gsCons (gNm 4) (gsCons (gNm 5) (gsCons (gNm 6) (gsCons (gNm 7) gsNil)))) 4) (sSeq (sSet 8 (ePure (pVar 4)))
    (sFor (iRg1 (aVal (ePure (pVar 2)) aNil)) (gNm 9) (sIf (tOrD (tPure rdNe (pVar 8) (pVar 6)) (tPure rdEq (pVar 9) (pC (.int 0)))) (sSeq (sSet 10 (eIf (tPure rdEq (pVar 5) (pC (.str "forward"))) (ePure (pVar 8)) (ePure (pOp rdSub (pOp rdAdd (pOp rdSub (pVar 8) (pC (.int 1))) (pVar 2)) (pOp rdMul (pOp rdFdiv (pOp rdAdd (pOp rdSub (pVar 8) (pC (.int 1))) (pVar 2)) (pVar 2)) (pVar 2))))))
    (sSeq (sIf (tOpD rdLt (eOp rdMul (ePure (pIx (pVar 3) (pVar 10))) (eIf (tPure rdEq (pVar 5) (pC (.str "forward"))) (ePure (pC (.int 1))) (ePure (pNeg (pC (.int 1)))))) (ePure (pC (.int 0)))) (sRet (ePure (pC .non))) sNext)
    (sSeq (sSetIx (eOp rdAdd (ePure (pIx (pVar 3) (pVar 10))) (eIf (tPure rdEq (pVar 5) (pC (.str "forward"))) (ePure (pVar 7)) (ePure (pNeg (pVar 7))))) (lVar 3) (pVar 10))
    (sSeq (sSet 8 (eIf (tPure rdEq (pVar 5) (pC (.str "forward"))) (ePure (pOp rdAdd (pVar 8) (pC (.int 1)))) (ePure (pVar 10))))
    (sSet 8 (eIf (tPure rdEq (pVar 8) (pVar 2)) (ePure (pC (.int 0))) (ePure (pVar 8)))))))) sNext))))
    (sRet (eTupP (pVar 3))))))
abbrev N_law_due : List Str := ["flows", "many", "left", "found", "turn", "excess", "starts", "k", "start", "step", "legs", "port", "after", "count", "direction", "leg"]
def w_law_due (sp_law_excesses : DSp) : Sw :=
    (sSeq (sSet 1 (ePure (pLen (pVar 0))))
    (sSeq (sSet 2 (eListP (pVar 0)))
    (sSeq (sSet 3 (eLst aNil))
    (sSeq (sFor (iRg1 (aVal (ePure (pOp rdMul (pC (.int 2)) (pVar 1))) aNil)) (gNm 4) (sSeq (sSet 5 (wCall (bor sp_law_excesses) (aLend (lVar 2) aNil)))
    (sSeq (sSet 6 (eLc (iRg1 (aVal (ePure (pVar 1)) aNil)) (gNm 7) (tPure rdGt (pIx (pVar 5) (pVar 7)) (pC (.int 0))) (ePure (pVar 7)) [7]))
    (sSeq (sIf (tNotD (tTruP (pVar 6))) sBrk sNext)
    (sSeq (sSet 8 (ePure (pIx (pVar 6) (pC (.int 0)))))
    (sSeq (sSet 9 (eIf (tPure rdGt (pIx (pVar 2) (pVar 8)) (pC (.int 0))) (ePure (pC (.int 1))) (ePure (pOp rdSub (pVar 1) (pC (.int 1))))))
    (sSeq (sSet 10 (eLst aNil))
    (sSeq (sSet 11 (ePure (pVar 8)))
    (sSeq (sFor (iRg1 (aVal (ePure (pVar 1)) aNil)) (gNm 7) (sSeq (sSet 12 (ePure (pOp rdSub (pOp rdAdd (pVar 11) (pVar 9)) (pOp rdMul (pOp rdFdiv (pOp rdAdd (pVar 11) (pVar 9)) (pVar 1)) (pVar 1)))))
    (sSeq (sDrop (eApp (lVar 10) (eIf (tAndD (tPure rdEq (pVar 9) (pC (.int 1))) (tPure rdGt (pIx (pVar 2) (pVar 8)) (pC (.int 0)))) (ePure (pVar 11)) (ePure (pVar 12)))))
    (sSeq (sSet 11 (ePure (pVar 12)))
    (sIf (tPure rdLt (pIx (pVar 5) (pVar 11)) (pC (.int 0))) sBrk sNext)))))
    (sSeq (sSet 13 (eCallB (rdI3 fun i j k => min (min i j) k) (aVal (ePure (pIx (pVar 5) (pVar 8))) (aVal (ePure (pNeg (pIx (pVar 5) (pVar 11)))) (aVal (eCallB rdAbs (aVal (ePure (pIx (pVar 2) (pIx (pVar 10) (pC (.int 0))))) aNil)) aNil)))))
    (sSeq (sSet 14 (eIf (tPure rdGt (pIx (pVar 2) (pVar 8)) (pC (.int 0))) (ePure (pC (.str "forward"))) (ePure (pC (.str "backward")))))
    (sSeq (sFor (iLs (eFrz 10)) (gNm 15) (sSetIx (eOp rdAdd (ePure (pIx (pVar 2) (pVar 15))) (eIf (tPure rdEq (pVar 14) (pC (.str "forward"))) (ePure (pNeg (pVar 13))) (ePure (pVar 13)))) (lVar 2) (pVar 15)))
    (sDrop (eApp (lVar 3) (eTup (aVal (ePure (pVar 8)) (aVal (ePure (pVar 14)) (aVal (ePure (pVar 11)) (aVal (ePure (pVar 13)) aNil)))))))))))))))))))
    (sRet (eTupP (pVar 3)))))))
abbrev N_law_sides_so : List Str := ["flows", "moves", "excess", "start", "direction", "stop", "count", "number"]
def w_law_sides_so (sp_law_excesses : DSp) : Sw :=
    (sSeq (sSet 2 (wCall sp_law_excesses (aVal (ePure (pVar 0)) aNil)))
    (sSeq (sFor (iSq (ePure (pVar 1))) (gTp (gsCons (gNm 3) (gsCons (gNm 4) (gsCons (gNm 5) (gsCons (gNm 6) gsNil)))) 4) (sSeq (sIf (tOrD (tPure rdLt (pIx (pVar 2) (pVar 3)) (pVar 6)) (tPure rdGt (pIx (pVar 2) (pVar 5)) (pNeg (pVar 6)))) (sRet (ePure (pC (.bl false)))) sNext)
    (sSeq (sSetIx (ePure (pOp rdSub (pIx (pVar 2) (pVar 3)) (pVar 6))) (lVar 2) (pVar 3))
    (sSetIx (ePure (pOp rdAdd (pIx (pVar 2) (pVar 5)) (pVar 6))) (lVar 2) (pVar 5)))))
    (sRet (eCallB rdAll (aVal (eKeep (eLc (iLs (eFrz 2)) (gNm 7) tAll (ePure (pOp rdEq (pVar 7) (pC (.int 0)))) [7])) aNil)))))
abbrev N_law_refused : List Str := ["flows"]
def w_law_refused (sp_to_moves : DSp) (C_BadFlows : Addr) (C_AllUsed : Addr) : Sw :=
    (sSeq (sTryM (⟨none, C_AllUsed, fun _ => some (.str "refused" :: (.str "used" :: []))⟩ :: (⟨none, C_BadFlows, fun _ => some (.str "refused" :: (.str "flows" :: []))⟩ :: [])) (sDrop (wCall sp_to_moves (aVal (ePure (pVar 0)) aNil))))
    (sRet (ePure (pC .non))))
abbrev N_law : List Str := ["script", "pool", "many", "top", "flows", "k", "told", "flow"]
def w_law (sp_law_pool : DSp) (sp_law_take : DSp) (sp_to_moves : DSp) (sp_law_same : DSp) (sp_law_due : DSp) (sp_law_laid : DSp) (sp_law_sides_so : DSp) (sp_law_refused : DSp) : Sw :=
    (sSeq (sSet 1 (wCall sp_law_pool (aVal (ePure (pVar 0)) aNil)))
    (sSeq (sSet 2 (eOp rdAdd (ePure (pC (.int 2))) (wCall sp_law_take (aLend (lVar 1) (aVal (eKeep (eIx (eTup (aVal (ePure (pC (.int 4))) (aVal (ePure (pC (.int 23))) aNil))) (wCall sp_law_take (aLend (lVar 1) (aVal (ePure (pC (.int 2))) aNil))))) aNil)))))
    (sSeq (sSet 3 (eIx (eTup (aVal (ePure (pC (.int 3))) (aVal (ePure (pC (.int 200000))) (aVal (ePure (pC (.int 9))) aNil)))) (wCall sp_law_take (aLend (lVar 1) (aVal (ePure (pC (.int 3))) aNil)))))
    (sSeq (sSet 4 (eLc (iRg1 (aVal (ePure (pVar 2)) aNil)) (gNm 5) tAll (eIf (tOpD rdGt (wCall sp_law_take (aLend (lVar 1) (aVal (ePure (pC (.int 3))) aNil))) (ePure (pC (.int 0)))) (eOp rdSub (wCall sp_law_take (aLend (lVar 1) (aVal (ePure (pOp rdAdd (pOp rdMul (pC (.int 2)) (pVar 3)) (pC (.int 1)))) aNil))) (ePure (pVar 3))) (ePure (pC (.int 0)))) [5]))
    (sSeq (sSetIxE (pC (.int 0)) (lVar 4) (wCall sp_law_take (aLend (lVar 1) (aVal (ePure (pVar 2)) aNil))))
    (sSeq (sSet 6 (wCall sp_to_moves (aVal (eTupP (pVar 4)) aNil)))
    (sSeq (sIf (tOrD (tNotD (tTru (wCall sp_law_same (aVal (ePure (pVar 6)) (aVal (wCall sp_law_due (aVal (eFrz 4) aNil)) aNil))))) (tNotD (tTru (wCall sp_law_same (aVal (eKeep (wCall sp_law_laid (aVal (eFrz 4) (aVal (ePure (pVar 6)) aNil)))) (aVal (eTupP (pVar 4)) aNil)))))) (sRet (ePure (pC (.bl false)))) sNext)
    (sSeq (sIf (tOrD (tNotD (tTru (wCall sp_law_sides_so (aVal (eFrz 4) (aVal (ePure (pVar 6)) aNil))))) (tPure rdGe (pLen (pVar 6)) (pOp rdMul (pC (.int 2)) (pVar 2)))) (sRet (ePure (pC (.bl false)))) sNext)
    (sSeq (sIf (tNotD (tTru (wCall sp_law_same (aVal (eKeep (wCall sp_law_refused (aVal (eKeep (eLc (iLs (eFrz 4)) (gNm 7) tAll (eIf (tPure rdNe (pVar 7) (pC (.int 0))) (ePure (pVar 7)) (ePure (pC (.int 1)))) [7])) aNil))) (aVal (eTup (aVal (ePure (pC (.str "refused"))) (aVal (ePure (pC (.str "used"))) aNil))) aNil))))) (sRet (ePure (pC (.bl false)))) sNext)
    (sRet (wCall sp_law_same (aVal (eKeep (wCall sp_law_refused (aVal (eKeep (eIx (eTup (aVal (eKeep (eLst (aVal (ePure (pC (.int 0))) aNil))) (aVal (eKeep (eLst aNil)) (aVal (eKeep (eRep (eLst (aVal (ePure (pC (.int 0))) aNil)) (ePure (pC (.int 25))))) aNil)))) (wCall sp_law_take (aLend (lVar 1) (aVal (ePure (pC (.int 3))) aNil))))) aNil))) (aVal (eTup (aVal (ePure (pC (.str "refused"))) (aVal (ePure (pC (.str "flows"))) aNil))) aNil)))))))))))))
end Qk68
set_option Elab.async false
set_option linter.all false
set_option maxRecDepth 100000
set_option maxHeartbeats 8000000
namespace Qk68
open PySem PySem.Spec PyProof.Rows L2 DL
local macro_rules | `(tactic| walk_at "w") => `(tactic| (refine evI ?_; simp only [entry, List.length_nil, List.length_cons, List.map_nil, List.map_cons, List.replicate_succ, List.replicate_zero, Nat.reduceSub, Nat.reduceAdd, List.cons_append, List.nil_append, List.length_map, ↓ev_ev, ↓ev_and, ↓ev_all, ↓ev_ifT, ↓ev_ifF, ↓ev_ifN, ↓ev_ow_int, ↓ev_ow_bl, ↓ev_ow_non, ↓ev_ow_str, ↓ev_ow_cv, ↓ev_ow_prD, ↓ev_ow_tup, ↓ev_ow_lst, ↓ev_ow_lsk, ↓ev_ows_nil, ↓ev_ows_cons, ↓ev_ows_app, ↓ev_ows_int, ↓ev_ows_prD, ↓ev_sz0, ↓ev_sz1, ↓ev_sz2, ↓ev_sz3, ↓ev_sz4, ↓ev_sz5, ↓ev_sz6, ↓ev_sz7, ↓ev_sz8, ↓ev_c, ↓ev_op, ↓ev_neg, ↓ev_negI, ↓ev_ix, ↓ev_ixT, ↓ev_ixL, ↓ev_ixK, ↓ev_ixP0, ↓ev_ixP1, ↓ev_at0, ↓ev_at1, ↓ev_at2, ↓ev_at3, ↓ev_at4, ↓ev_at5, ↓ev_at6, ↓ev_at7, ↓ev_len, ↓ev_lenT, ↓ev_lenL, ↓ev_lenK, ↓ev_rdI0, ↓ev_rdI, ↓ev_rdAdd, ↓ev_rdSub, ↓ev_rdLt, ↓ev_rdLe, ↓ev_rdGt, ↓ev_rdGe, ↓ev_rdMul, ↓ev_rdFdiv, ↓ev_rdMod, ↓ev_rdEqI, ↓ev_rdEqS, ↓ev_rdNeI, ↓ev_rdNeS, ↓ev_isN_int, ↓ev_notN_int, ↓ev_isN_bl, ↓ev_notN_bl, ↓ev_isN_str, ↓ev_notN_str, ↓ev_isN_tup, ↓ev_notN_tup, ↓ev_isN_lst, ↓ev_notN_lst, ↓ev_isN_lsk, ↓ev_notN_lsk, ↓ev_isN_non, ↓ev_notN_non, ↓ev_pure, ↓ev_keep, ↓ev_keep_lst, ↓ev_keep_tup, ↓ev_keep_int, ↓ev_keep_non, ↓ev_keep_bl, ↓ev_keep_str, ↓ev_keep_lsk, ↓ev_keepP, ↓ev_keepS, ↓ev_eop, ↓ev_tup, ↓ev_lst, ↓ev_vs_nil, ↓ev_vs_1, ↓ev_vs_2, ↓ev_vs_3, ↓ev_vs_4, ↓ev_vs_5, ↓ev_vs_6, ↓ev_vs_7, ↓ev_eif, ↓ev_eand, ↓ev_andQ, ↓ev_eor, ↓ev_orQ, ↓ev_enot, ↓ev_notQ, ↓ev_enotT, ↓ev_eneg, ↓ev_eix, ↓ev_ixDT, ↓ev_ixDL, ↓ev_ixDP0, ↓ev_ixDP1, ↓ev_elen, ↓ev_callB, ↓ev_rdInt, ↓ev_rdMax, ↓ev_rdMin, ↓ev_rdAbs, ↓ev_call, ↓ev_res_nil, ↓ev_res_val, ↓ev_give_nil, ↓ev_give_val, ↓ev_app, ↓ev_appQ, ↓ev_pop, ↓ev_listP, ↓ev_listE, ↓ev_tupP, ↓ev_tupE, ↓ev_seq_tup, ↓ev_seq_lst, ↓ev_seq_lsk, ↓ev_cat, ↓ev_catQ, ↓ev_catQ2, ↓ev_catT, ↓ev_catTQ, ↓ev_catTQ2, ↓ev_rep, ↓ev_repQ, ↓ev_repQ2, ↓ev_slc, ↓ev_slcT, ↓ev_slcL, ↓ev_slcE, ↓ev_slcET, ↓ev_slcEL, ↓ev_poN, ↓ev_poS, ↓ev_iq, ↓ev_lc, ↓ev_wp1, ↓ev_wp2, ↓ev_wp3, ↓ev_ixS, ↓ev_lenS, ↓ev_seqS, ↓ev_walkS, ↓ev_owS, ↓ev_stry, ↓ev_listRg, ↓ev_lrg, ↓ev_anil, ↓ev_aval, ↓ev_alend, ↓ev_lendA, ↓ev_astar, ↓ev_tpure, ↓ev_bq, ↓ev_topd, ↓ev_ttruP, ↓ev_ttru, ↓ev_truB, ↓ev_truN, ↓ev_truT0, ↓ev_truT1, ↓ev_truL0, ↓ev_truL1, ↓ev_tnot, ↓ev_tand, ↓ev_tor, ↓ev_tall, ↓ev_tch, ↓ev_chq, ↓ev_isq, ↓ev_walkT, ↓ev_walkL, ↓ev_walkK, ↓ev_itp, ↓ev_tpI, ↓ev_ils, ↓ev_lsI, ↓ev_lsK, ↓ev_irg1, ↓ev_rg1, ↓ev_irg2, ↓ev_rg2, ↓ev_ienum, ↓ev_enumL, ↓ev_enumK, ↓ev_ienumT, ↓ev_gnm, ↓ev_gtp, ↓ev_tpq1, ↓ev_tpq2, ↓ev_tpq3, ↓ev_tpq4, ↓ev_tpq5, ↓ev_tpq6, ↓ev_tpqP, ↓ev_gsnil, ↓ev_gscons, ↓ev_sseq, ↓ev_snext, ↓ev_sbrk, ↓ev_scnt, ↓ev_sdrop, ↓ev_sret, ↓ev_sretn, ↓ev_sif, ↓ev_sset, ↓ev_sasg, ↓ev_sfor, ↓ev_swhile, ↓ev_ssetix, ↓ev_setixq, ↓ev_sraise, ↓ev_lnq, ↓ev_lnq0, ↓ev_spar, ↓ev_parq, ↓ev_var0, ↓ev_set0, ↓ev_mov0, ↓ev_frz0, ↓ev_frzT0, ↓ev_lv0, ↓ev_app2_0, ↓ev_aug0, ↓ev_augq0, ↓ev_setixn0, ↓ev_popq0, ↓ev_lend0, ↓ev_giveL0, ↓ev_var1, ↓ev_set1, ↓ev_mov1, ↓ev_frz1, ↓ev_frzT1, ↓ev_lv1, ↓ev_app2_1, ↓ev_aug1, ↓ev_augq1, ↓ev_setixn1, ↓ev_popq1, ↓ev_lend1, ↓ev_giveL1, ↓ev_var2, ↓ev_set2, ↓ev_mov2, ↓ev_frz2, ↓ev_frzT2, ↓ev_lv2, ↓ev_app2_2, ↓ev_aug2, ↓ev_augq2, ↓ev_setixn2, ↓ev_popq2, ↓ev_lend2, ↓ev_giveL2, ↓ev_var3, ↓ev_set3, ↓ev_mov3, ↓ev_frz3, ↓ev_frzT3, ↓ev_lv3, ↓ev_app2_3, ↓ev_aug3, ↓ev_augq3, ↓ev_setixn3, ↓ev_popq3, ↓ev_lend3, ↓ev_giveL3, ↓ev_var4, ↓ev_set4, ↓ev_mov4, ↓ev_frz4, ↓ev_frzT4, ↓ev_lv4, ↓ev_app2_4, ↓ev_aug4, ↓ev_augq4, ↓ev_setixn4, ↓ev_popq4, ↓ev_lend4, ↓ev_giveL4, ↓ev_var5, ↓ev_set5, ↓ev_mov5, ↓ev_frz5, ↓ev_frzT5, ↓ev_lv5, ↓ev_app2_5, ↓ev_aug5, ↓ev_augq5, ↓ev_setixn5, ↓ev_popq5, ↓ev_lend5, ↓ev_giveL5, ↓ev_var6, ↓ev_set6, ↓ev_mov6, ↓ev_frz6, ↓ev_frzT6, ↓ev_lv6, ↓ev_app2_6, ↓ev_aug6, ↓ev_augq6, ↓ev_setixn6, ↓ev_popq6, ↓ev_lend6, ↓ev_giveL6, ↓ev_var7, ↓ev_set7, ↓ev_mov7, ↓ev_frz7, ↓ev_frzT7, ↓ev_lv7, ↓ev_app2_7, ↓ev_aug7, ↓ev_augq7, ↓ev_setixn7, ↓ev_popq7, ↓ev_lend7, ↓ev_giveL7, ↓ev_var8, ↓ev_set8, ↓ev_mov8, ↓ev_frz8, ↓ev_frzT8, ↓ev_lv8, ↓ev_app2_8, ↓ev_aug8, ↓ev_augq8, ↓ev_setixn8, ↓ev_popq8, ↓ev_lend8, ↓ev_giveL8, ↓ev_var9, ↓ev_set9, ↓ev_mov9, ↓ev_frz9, ↓ev_frzT9, ↓ev_lv9, ↓ev_app2_9, ↓ev_aug9, ↓ev_augq9, ↓ev_setixn9, ↓ev_popq9, ↓ev_lend9, ↓ev_giveL9, ↓ev_var10, ↓ev_set10, ↓ev_mov10, ↓ev_frz10, ↓ev_frzT10, ↓ev_lv10, ↓ev_app2_10, ↓ev_aug10, ↓ev_augq10, ↓ev_setixn10, ↓ev_popq10, ↓ev_lend10, ↓ev_giveL10, ↓ev_var11, ↓ev_set11, ↓ev_mov11, ↓ev_frz11, ↓ev_frzT11, ↓ev_lv11, ↓ev_app2_11, ↓ev_aug11, ↓ev_augq11, ↓ev_setixn11, ↓ev_popq11, ↓ev_lend11, ↓ev_giveL11, ↓ev_var12, ↓ev_set12, ↓ev_mov12, ↓ev_frz12, ↓ev_frzT12, ↓ev_lv12, ↓ev_app2_12, ↓ev_aug12, ↓ev_augq12, ↓ev_setixn12, ↓ev_popq12, ↓ev_lend12, ↓ev_giveL12, ↓ev_var13, ↓ev_set13, ↓ev_mov13, ↓ev_frz13, ↓ev_frzT13, ↓ev_lv13, ↓ev_app2_13, ↓ev_aug13, ↓ev_augq13, ↓ev_setixn13, ↓ev_popq13, ↓ev_lend13, ↓ev_giveL13, ↓ev_var14, ↓ev_set14, ↓ev_mov14, ↓ev_frz14, ↓ev_frzT14, ↓ev_lv14, ↓ev_app2_14, ↓ev_aug14, ↓ev_augq14, ↓ev_setixn14, ↓ev_popq14, ↓ev_lend14, ↓ev_giveL14, ↓ev_var15, ↓ev_set15, ↓ev_mov15, ↓ev_frz15, ↓ev_frzT15, ↓ev_lv15, ↓ev_app2_15, ↓ev_aug15, ↓ev_augq15, ↓ev_setixn15, ↓ev_popq15, ↓ev_lend15, ↓ev_giveL15, ↓ev_enS0, ↓ev_enT0, ↓ev_enL0, ↓ev_enS1, ↓ev_enT1, ↓ev_enL1, ↓ev_enS2, ↓ev_enT2, ↓ev_enL2, ↓ev_enS3, ↓ev_enT3, ↓ev_enL3, ↓ev_enS4, ↓ev_enT4, ↓ev_enL4, ↓ev_enS5, ↓ev_enT5, ↓ev_enL5, ↓ev_enS6, ↓ev_enT6, ↓ev_enL6, ↓ev_enS7, ↓ev_enT7, ↓ev_enL7, ↓ev_enS8, ↓ev_enT8, ↓ev_enL8, ↓ev_enS9, ↓ev_enT9, ↓ev_enL9, ↓ev_enS10, ↓ev_enT10, ↓ev_enL10, ↓ev_enS11, ↓ev_enT11, ↓ev_enL11, ↓ev_enS12, ↓ev_enT12, ↓ev_enL12, ↓ev_enS13, ↓ev_enT13, ↓ev_enL13, ↓ev_enS14, ↓ev_enT14, ↓ev_enL14, ↓ev_enS15, ↓ev_enT15, ↓ev_enL15, ↓ev_adq, ↓ev_rdAny, ↓ev_rdAll, ↓ev_rdSum, ↓ev_rdMaxL, ↓ev_rdMinL, ↓ev_ext, ↓ev_extQ, ↓ev_zip, ↓ev_zipT, ↓ev_zipL, ↓ev_pch, ↓ev_pchq, ↓ev_repP, ↓ev_repPQ, ↓ev_ext2_0, ↓ev_ext2_1, ↓ev_ext2_2, ↓ev_ext2_3, ↓ev_ext2_4, ↓ev_ext2_5, ↓ev_ext2_6, ↓ev_ext2_7, ↓ev_ext2_8, ↓ev_ext2_9, ↓ev_ext2_10, ↓ev_ext2_11, ↓ev_ext2_12, ↓ev_ext2_13, ↓ev_ext2_14, ↓ev_ext2_15, ↓ev_stryM, ↓ev_raise0, ↓ev_isB, ↓ev_notB, ↓ev_zip4, ↓ev_sumP, ↓ev_sumQ, ↓ev_sortI, ↓ev_sort2, ↓ev_augix, ↓ev_augixr0, ↓ev_augixr1, ↓ev_augixr2, ↓ev_augixr3, ↓ev_augixr4, ↓ev_augixr5, ↓ev_augixr6, ↓ev_augixr7, ↓ev_augixr8, ↓ev_augixr9, ↓ev_augixr10, ↓ev_augixr11, ↓ev_augixr12, ↓ev_augixr13, ↓ev_augixr14, ↓ev_augixr15, ↓ev_rdI3, ↓ev_setixe, ↓ev_setixeq, ev_fr1_lst, ev_fr1_tup, ev_fr1_int, ev_fr1_non, ev_fr1_bl, ev_fr1_str, ev_fr1_lsk, ev_fr1S, ev_addrP, ev_addrL]))
local macro_rules | `(tactic| walk_at "d") => `(tactic| first
  | refine And.intro (by first | assumption | omega | exact mul_smallL (by omega) (by omega) | exact mul_small (by omega) (by omega) | exact divw (by omega) (by omega) | exact rg_of (by omega) (by omega) | exact RgOk.of_le (by omega) (by omega) (by omega) (by omega) | exact lenok (by first | omega | (simp only [List.length_map, List.length_append, List.length_cons, List.length_nil, List.length_take, List.length_drop]; omega))) ?_
  | refine ow (by first | assumption | (simp only [own, owns, List.append_nil, List.nil_append]; first | done | assumption)) ?_
  | refine ows (by first | assumption | exact owns_map_nil (fun _ => rfl) _ | exact owns_rows _) ?_
  | refine sz (by first | omega | (simp only [List.length_map, List.length_append, List.length_cons, List.length_nil, List.length_take, List.length_drop]; omega)) ?_
  | refine brT (by omega) ?_
  | refine brF (by omega) ?_)
local macro_rules | `(tactic| walk_at "go") => `(tactic| (try walk_at "w") <;> repeat (walk_at "d" <;> try walk_at "w"))

theorem enumD_rng {α : Type} [Inhabited α] (f : α → D) (l : List α) : enumD (l.map f) = (List.range l.length).map fun k => D.tup [.int (k : Nat), f (nt l k)] := by
  unfold enumD
  refine List.ext_getElem? fun k => ?_
  rw [List.getElem?_mapIdx, List.getElem?_map, List.getElem?_map]
  by_cases h : k < l.length
  · rw [nt_get h, List.getElem?_range h]; rfl
  · rw [List.getElem?_eq_none (by omega), List.getElem?_eq_none (by rw [List.length_range]; omega)]; rfl
/-! ### rings, legs, surpluses -/
def Ring (n : Nat) : Prop := 2 ≤ n ∧ n ≤ 24
def sp_ring : DSp := fun ds Q _ => ∃ (l : List D) (q : Sq l), ds = [q.d] ∧ owns l = [] ∧ (Ring l.length → Q (.bl true) [q.d]) ∧ (¬ Ring l.length → Q (.bl false) [q.d])
theorem word_ring : ∀ ds Qd Qx, sp_ring ds Qd Qx → w_is_ring (Ends' ds Qd Qx) (entry N_is_ring ds) := by
  rintro ds Qd Qx ⟨l, q, rfl, n, h1, h2⟩
  have oq := owS q n
  unfold Ring at h1 h2
  unfold w_is_ring
  walk_at "go"
  refine br (fun z => ?_) (fun z => ?_)
  · walk_at "go"
    by_cases z2 : l.length ≤ 24
    · rw [decide_eq_true (show (l.length : Int) ≤ 24 by omega)]
      exact finV oq (fin0 (h1 ⟨by omega, z2⟩))
    · rw [decide_eq_false (show ¬ (l.length : Int) ≤ 24 by omega)]
      exact finV oq (fin0 (h2 (by omega)))
  · walk_at "go"
    exact finV oq (fin0 (h2 (by omega)))
/-! ### excesses -/
def pv (fs : List Int) (k : Nat) : Int := if k = 0 then nt fs (fs.length - 1) else nt fs (k - 1)
def exc (fs : List Int) : List Int := (List.range fs.length).map fun k => nt fs k - pv fs k
theorem exc_len (fs : List Int) : (exc fs).length = fs.length := by unfold exc; rw [List.length_map, List.length_range]
theorem at_pv {fs : List Int} {R : D → Prop} {k : Nat} (hk : k < fs.length) (h : Ev (R (.int (pv fs k)))) : Ev (AtQ (fs.map .int) ((k : Int) - 1) R) := by
  unfold pv at h
  by_cases z : k = 0
  · rw [if_pos z] at h
    subst z
    exact at_last (by omega) h
  · rw [if_neg z] at h
    exact at_nt (k - 1) (by omega) (by omega) h
def sp_exc : DSp := fun ds Q _ => ∃ (fs : List Int) (q : Sq (fs.map .int)), ds = [q.d] ∧ fs.length < 1000 ∧ ∀ p, Q (.lst (some p) ((exc fs).map .int)) [q.d]
theorem word_exc : ∀ ds Qd Qx, sp_exc ds Qd Qx → w_excesses (Ends' ds Qd Qx) (entry N_excesses ds) := by
  rintro ds Qd Qx ⟨fs, q, rfl, hl, h⟩
  have oq := owS q (owns_ints fs)
  unfold w_excesses
  walk_at "go"
  rw [enumD_rng]
  refine lcMap (enc := fun k => D.tup [.int (k : Nat), .int (nt fs k)]) (fun _ => true) (fun k => .int (nt fs k - pv fs k)) rfl ?_ ?_
  · intro i k hk
    have lk := lt_of_get hk
    rw [List.length_range] at lk
    have ek : k = i := by rw [List.getElem?_range lk] at hk; exact (Option.some.inj hk).symm
    subst ek
    walk_at "go"
    refine at_pv lk ?_
    walk_at "go"
    exact lcYes hk (by rw [List.length_range]; omega) rfl rfl rfl
  intro p
  rw [filt_all, show (List.range fs.length).map (fun k => D.int (nt fs k - pv fs k)) = (exc fs).map .int from map_int _ _]
  have oe := owns_ints (exc fs)
  walk_at "go"
  exact finV oq (fin0 (h p))
theorem word_lexc : ∀ ds Qd Qx, sp_exc ds Qd Qx → w_law_excesses (Ends' ds Qd Qx) (entry N_law_excesses ds) := by
  rintro ds Qd Qx ⟨fs, q, rfl, hl, h⟩
  have oq := owS q (owns_ints fs)
  unfold w_law_excesses
  walk_at "go"
  refine lcRg (fun _ => true) (fun k => .int (nt fs k - pv fs k)) rfl ?_ ?_
  · intro k hk hx
    rw [Int.zero_add]
    have lk : k < fs.length := by omega
    walk_at "go"
    refine at_nt k rfl lk ?_
    walk_at "go"
    refine at_pv lk ?_
    walk_at "go"
    exact lcYes hx (by rw [List.length_range]; omega) rfl rfl rfl
  intro p
  rw [filt_all, show (List.range (fs.length : Int).toNat).map (fun k => D.int (nt fs k - pv fs k)) = (exc fs).map .int from map_int _ _]
  have oe := owns_ints (exc fs)
  walk_at "go"
  exact finV oq (fin0 (h p))
theorem exc_nt {fs : List Int} {k : Nat} (h : k < fs.length) : nt (exc fs) k = nt fs k - pv fs k := nt_of (by
  unfold exc
  rw [List.getElem?_map, List.getElem?_range h]; rfl)
end Qk68
set_option Elab.async false
set_option linter.all false
set_option maxRecDepth 100000
set_option maxHeartbeats 4000000
namespace Qk68
open PySem PySem.Spec PyProof.Rows L2 DL
/-! ### the ring: ports passed, legs walked -/
def portF (n s t : Nat) : Nat := (s + t) % n
def portB (n s t : Nat) : Nat := (s + (n - 1) * t) % n
def port (n s : Nat) (fwd : Bool) (t : Nat) : Nat := if fwd then portF n s t else portB n s t
def leg (n s : Nat) (fwd : Bool) (t : Nat) : Nat := if fwd then port n s fwd t else port n s fwd (t + 1)
theorem port_lt {n s t : Nat} {fwd : Bool} (h : 0 < n) : port n s fwd t < n := by
  unfold port portF portB
  split <;> exact Nat.mod_lt _ h
theorem port_zero {n s : Nat} {fwd : Bool} (h : s < n) : port n s fwd 0 = s := by
  unfold port portF portB
  cases fwd
  · show (s + (n - 1) * 0) % n = s
    rw [Nat.mul_zero, Nat.add_zero, Nat.mod_eq_of_lt h]
  · show (s + 0) % n = s
    rw [Nat.add_zero, Nat.mod_eq_of_lt h]
theorem pF_lt {n s t : Nat} (h : 0 < n) : portF n s t < n := Nat.mod_lt _ h
theorem pB_lt {n s t : Nat} (h : 0 < n) : portB n s t < n := Nat.mod_lt _ h
theorem portF_succ (n s t : Nat) : (portF n s t + 1) % n = portF n s (t + 1) := by
  unfold portF
  rw [Nat.mod_add_mod, Nat.add_assoc]
theorem portB_succ (n s t : Nat) : (portB n s t + (n - 1)) % n = portB n s (t + 1) := by
  unfold portB
  rw [Nat.mod_add_mod, Nat.mul_succ, Nat.add_assoc]
theorem leg_lt {n s t : Nat} {fwd : Bool} (h : 0 < n) : leg n s fwd t < n := by
  unfold leg
  split <;> exact port_lt h
/-- the flow ahead of a port -/
theorem pv_mod {fs : List Int} {k : Nat} (hk : k < fs.length) : pv fs k = nt fs ((k + (fs.length - 1)) % fs.length) := by
  unfold pv
  by_cases z : k = 0
  · rw [if_pos z, z, Nat.zero_add, Nat.mod_eq_of_lt (by omega)]
  · rw [if_neg z, show k + (fs.length - 1) = k - 1 + fs.length by omega, Nat.add_mod_right, Nat.mod_eq_of_lt (by omega)]
theorem pv_B {fs : List Int} {s t : Nat} (h : 0 < fs.length) : pv fs (portB fs.length s t) = nt fs (portB fs.length s (t + 1)) := by
  rw [pv_mod (pB_lt h), portB_succ]
theorem pv_F {fs : List Int} {s t : Nat} (h : 0 < fs.length) : pv fs (portF fs.length s (t + 1)) = nt fs (portF fs.length s t) := by
  rw [pv_mod (pF_lt h)]
  congr 1
  unfold portF
  rw [Nat.mod_add_mod, show s + (t + 1) + (fs.length - 1) = s + t + fs.length by omega, Nat.add_mod_right]
/-- while no port passed is short, the flows on the legs do not fall back -/
theorem mono_F {fs : List Int} {s : Nat} (h : 0 < fs.length) : ∀ t, (∀ j, 1 ≤ j → j ≤ t → 0 ≤ nt (exc fs) (portF fs.length s j)) → nt fs (portF fs.length s 0) ≤ nt fs (portF fs.length s t)
  | 0, _ => Int.le_refl _
  | t + 1, g => by
    have ih := mono_F (s := s) h t fun j h1 h2 => g j h1 (by omega)
    have e := g (t + 1) (by omega) (Nat.le_refl _)
    rw [exc_nt (pF_lt h), pv_F h] at e
    omega
theorem mono_B {fs : List Int} {s : Nat} (h : 0 < fs.length) : ∀ t, (∀ j, 1 ≤ j → j ≤ t → 0 ≤ nt (exc fs) (portB fs.length s j)) → nt fs (portB fs.length s (t + 1)) ≤ nt fs (portB fs.length s 1)
  | 0, _ => Int.le_refl _
  | t + 1, g => by
    have ih := mono_B (s := s) h t fun j h1 h2 => g j h1 (by omega)
    have e := g (t + 1) (by omega) (Nat.le_refl _)
    rw [exc_nt (pB_lt h), pv_B h] at e
    omega
/-- round the ring back to the start -/
theorem portF_back {n s : Nat} (h : s < n) : portF n s n = s := by
  unfold portF
  rw [Nat.add_mod_right, Nat.mod_eq_of_lt h]
theorem portB_back {n s : Nat} (h : s < n) : portB n s n = s := by
  unfold portB
  rw [Nat.add_mul_mod_self_right, Nat.mod_eq_of_lt h]
/-- a port that has too much meets one that has too little, before it comes round -/
theorem meets {fs : List Int} {s : Nat} {fwd : Bool} (h : s < fs.length) (e : 0 < nt (exc fs) s) : ∃ t, 1 ≤ t ∧ t < fs.length ∧ nt (exc fs) (port fs.length s fwd t) < 0 := by
  refine Classical.byContradiction fun no => ?_
  have all : ∀ j, 1 ≤ j → j ≤ fs.length - 1 → 0 ≤ nt (exc fs) (port fs.length s fwd j) := fun j h1 h2 => by
    by_cases z : nt (exc fs) (port fs.length s fwd j) < 0
    · exact absurd ⟨j, h1, by omega, z⟩ no
    · omega
  rw [exc_nt h] at e
  cases fwd with
  | true =>
    have m := mono_F (s := s) (by omega) (fs.length - 1) all
    rw [show portF fs.length s 0 = s from port_zero (fwd := true) h] at m
    have v := pv_F (fs := fs) (s := s) (t := fs.length - 1) (by omega)
    rw [show fs.length - 1 + 1 = fs.length by omega, portF_back h] at v
    omega
  | false =>
    have m := mono_B (s := s) (by omega) (fs.length - 1) all
    rw [show fs.length - 1 + 1 = fs.length by omega, portB_back h] at m
    have v := pv_B (fs := fs) (s := s) (t := 0) (by omega)
    rw [show portB fs.length s 0 = s from port_zero (fwd := false) h, Nat.zero_add] at v
    omega
end Qk68
set_option Elab.async false
set_option linter.all false
set_option maxRecDepth 100000
set_option maxHeartbeats 4000000
namespace Qk68
open PySem PySem.Spec PyProof.Rows L2 DL
/-- the first port met that has too little -/
structure Meet (fs : List Int) (s : Nat) (fwd : Bool) (d : Nat) : Prop where
  one : 1 ≤ d
  lt : d < fs.length
  neg : nt (exc fs) (port fs.length s fwd d) < 0
  pos : ∀ j, j < d → 0 ≤ nt (exc fs) (port fs.length s fwd j)
theorem meet {fs : List Int} {s : Nat} {fwd : Bool} (h : s < fs.length) (e : 0 < nt (exc fs) s) : ∃ d, Meet fs s fwd d := by
  obtain ⟨t, t1, t2, t3⟩ := meets (fwd := fwd) h e
  have key : ∀ t, 1 ≤ t → t < fs.length → nt (exc fs) (port fs.length s fwd t) < 0 → ∃ d, Meet fs s fwd d := by
    intro t
    induction t using Nat.strongRecOn with
    | _ t ih =>
      intro t1 t2 t3
      by_cases z : ∃ j, 1 ≤ j ∧ j < t ∧ nt (exc fs) (port fs.length s fwd j) < 0
      · obtain ⟨j, j1, j2, j3⟩ := z
        exact ih j j2 j1 (by omega) j3
      · refine ⟨t, t1, t2, t3, fun j hj => ?_⟩
        by_cases y : j = 0
        · rw [y, port_zero h]; omega
        · by_cases w : nt (exc fs) (port fs.length s fwd j) < 0
          · exact absurd ⟨j, by omega, hj, w⟩ z
          · omega
  exact key t t1 t2 t3
/-- what the legs carry: all of one sign, and no less than the first -/
theorem carry {fs : List Int} {s d : Nat} {fwd : Bool} (M : Meet fs s fwd d) (h : s < fs.length) (e : 0 < nt (exc fs) s) (hf : fwd = decide (0 < nt fs s)) : ∀ t, t < d →
    (fwd = true → 0 < nt fs (leg fs.length s fwd 0) ∧ nt fs (leg fs.length s fwd 0) ≤ nt fs (leg fs.length s fwd t)) ∧
    (fwd = false → nt fs (leg fs.length s fwd 0) < 0 ∧ nt fs (leg fs.length s fwd t) ≤ nt fs (leg fs.length s fwd 0)) := by
  intro t ht
  have hn : 0 < fs.length := by omega
  constructor
  · intro f
    subst f
    have p0 : 0 < nt fs s := of_decide_eq_true hf.symm
    have m := mono_F (s := s) hn t fun j j1 j2 => M.pos j (by omega)
    have z0 : leg fs.length s true 0 = s := port_zero (fwd := true) h
    rw [z0]
    rw [show portF fs.length s 0 = s from port_zero (fwd := true) h] at m
    exact ⟨p0, m⟩
  · intro f
    subst f
    have p0 : ¬ 0 < nt fs s := of_decide_eq_false hf.symm
    have m := mono_B (s := s) hn t fun j j1 j2 => M.pos j (by omega)
    have z0 : leg fs.length s false 0 = portB fs.length s 1 := rfl
    have zt : leg fs.length s false t = portB fs.length s (t + 1) := rfl
    rw [z0, zt]
    rw [exc_nt h] at e
    have v := pv_B (fs := fs) (s := s) (t := 0) hn
    rw [show portB fs.length s 0 = s from port_zero (fwd := false) h, Nat.zero_add] at v
    exact ⟨by omega, m⟩
/-- ports within one round are different -/
theorem portF_inj {n s i j : Nat} (hs : s < n) (hi : i < n) (hj : j < n) (e : portF n s i = portF n s j) : i = j := by
  unfold portF at e
  by_cases a : s + i < n
  · by_cases b : s + j < n
    · rw [Nat.mod_eq_of_lt a, Nat.mod_eq_of_lt b] at e; omega
    · rw [Nat.mod_eq_of_lt a, show s + j = s + j - n + n by omega, Nat.add_mod_right, Nat.mod_eq_of_lt (by omega)] at e; omega
  · by_cases b : s + j < n
    · rw [Nat.mod_eq_of_lt b, show s + i = s + i - n + n by omega, Nat.add_mod_right, Nat.mod_eq_of_lt (by omega)] at e; omega
    · rw [show s + i = s + i - n + n by omega, Nat.add_mod_right, Nat.mod_eq_of_lt (by omega), show s + j = s + j - n + n by omega, Nat.add_mod_right, Nat.mod_eq_of_lt (by omega)] at e; omega
/-- a step back, told without the product -/
theorem portB_eq {n s t : Nat} (hs : s < n) (ht : t ≤ n) : portB n s t = (s + (n - t)) % n := by
  unfold portB
  have h : s + (n - 1) * t + t = s + t * n := by
    rw [Nat.add_assoc, show (n - 1) * t + t = (n - 1 + 1) * t by rw [Nat.add_mul, Nat.one_mul], show n - 1 + 1 = n by omega, Nat.mul_comm]
  have e : (s + (n - 1) * t + t) % n = (s + (n - t) + t) % n := by
    rw [h, show s + (n - t) + t = s + n by omega, Nat.add_mul_mod_self_right, Nat.add_mod_right]
  have := congrArg (fun z => (z + (n - t)) % n) e
  simp only [Nat.mod_add_mod] at this
  rw [show s + (n - 1) * t + t + (n - t) = s + (n - 1) * t + n by omega, show s + (n - t) + t + (n - t) = s + (n - t) + n by omega, Nat.add_mod_right, Nat.add_mod_right] at this
  exact this
end Qk68
set_option Elab.async false
set_option linter.all false
set_option maxRecDepth 100000
set_option maxHeartbeats 4000000
namespace Qk68
open PySem PySem.Spec PyProof.Rows L2 DL
structure Mv where
  s : Nat
  fwd : Bool
  d : Nat
  c : Int
def Mv.stop (n : Nat) (m : Mv) : Nat := port n m.s m.fwd m.d
def Mv.leg (n : Nat) (m : Mv) (t : Nat) : Nat := Qk68.leg n m.s m.fwd t
def Mv.sg (m : Mv) : Int := if m.fwd then m.c else -m.c
structure Nx (fs : List Int) (m : Mv) : Prop where
  lt : m.s < fs.length
  pos : 0 < nt (exc fs) m.s
  fst : ∀ j, j < m.s → nt (exc fs) j ≤ 0
  dir : m.fwd = decide (0 < nt fs m.s)
  meet : Meet fs m.s m.fwd m.d
  cnt : m.c = min (min (nt (exc fs) m.s) (-nt (exc fs) (m.stop fs.length))) ((nt fs (m.leg fs.length 0)).natAbs : Int)
def tk (fs : List Int) (m : Mv) : Nat → List Int
  | 0 => fs
  | t + 1 => (tk fs m t).set (m.leg fs.length t) (nt (tk fs m t) (m.leg fs.length t) - m.sg)
theorem tk_len (fs : List Int) (m : Mv) : ∀ t, (tk fs m t).length = fs.length
  | 0 => rfl
  | t + 1 => by show ((tk fs m t).set _ _).length = _; rw [List.length_set, tk_len fs m t]
theorem nt_set {l : List Int} {i k : Nat} {v : Int} (hk : k < l.length) : nt (l.set i v) k = if k = i then v else nt l k := nt_of (by
  rw [List.getElem?_set]
  by_cases e : i = k
  · subst e; simp [hk]
  · rw [if_neg e, if_neg (fun z => e z.symm), nt_get hk])
/-- ports by steps back, told without the product -/
theorem portB_inj {n s i j : Nat} (hs : s < n) (hi : i < n) (hj : j < n) (e : portB n s i = portB n s j) : i = j := by
  rw [portB_eq hs (by omega), portB_eq hs (by omega)] at e
  by_cases a : i = 0
  · subst a
    rw [Nat.sub_zero, Nat.add_mod_right, Nat.mod_eq_of_lt hs] at e
    by_cases b : j = 0
    · omega
    · by_cases c : s + (n - j) < n
      · rw [Nat.mod_eq_of_lt c] at e; omega
      · rw [show s + (n - j) = s - j + n by omega, Nat.add_mod_right, Nat.mod_eq_of_lt (by omega)] at e; omega
  · by_cases b : j = 0
    · subst b
      rw [Nat.sub_zero, Nat.add_mod_right, Nat.mod_eq_of_lt hs] at e
      by_cases c : s + (n - i) < n
      · rw [Nat.mod_eq_of_lt c] at e; omega
      · rw [show s + (n - i) = s - i + n by omega, Nat.add_mod_right, Nat.mod_eq_of_lt (by omega)] at e; omega
    · have := portF_inj (n := n) (s := s) (i := n - i) (j := n - j) hs (by omega) (by omega) e
      omega
theorem port_inj {n s i j : Nat} {fwd : Bool} (hs : s < n) (hi : i < n) (hj : j < n) (e : port n s fwd i = port n s fwd j) : i = j := by
  cases fwd
  · exact portB_inj hs hi hj e
  · exact portF_inj hs hi hj e
theorem port_surj {n s k : Nat} (fwd : Bool) (hs : s < n) (hk : k < n) : ∃ j, j < n ∧ port n s fwd j = k := by
  cases fwd
  · by_cases z : k ≤ s
    · refine ⟨s - k, by omega, ?_⟩
      show portB n s (s - k) = k
      rw [portB_eq hs (by omega), show s + (n - (s - k)) = k + n by omega, Nat.add_mod_right, Nat.mod_eq_of_lt hk]
    · refine ⟨n - (k - s), by omega, ?_⟩
      show portB n s (n - (k - s)) = k
      rw [portB_eq hs (by omega), show s + (n - (n - (k - s))) = k by omega, Nat.mod_eq_of_lt hk]
  · by_cases z : s ≤ k
    · refine ⟨k - s, by omega, ?_⟩
      show (s + (k - s)) % n = k
      rw [show s + (k - s) = k by omega, Nat.mod_eq_of_lt hk]
    · refine ⟨n - (s - k), by omega, ?_⟩
      show (s + (n - (s - k))) % n = k
      rw [show s + (n - (s - k)) = k + n by omega, Nat.add_mod_right, Nat.mod_eq_of_lt hk]
theorem leg_inj {n s i j : Nat} {fwd : Bool} (hs : s < n) (hi : i + 1 < n) (hj : j + 1 < n) (e : Qk68.leg n s fwd i = Qk68.leg n s fwd j) : i = j := by
  cases fwd
  · have := portB_inj (i := i + 1) (j := j + 1) hs hi hj e; omega
  · exact portF_inj hs (by omega) (by omega) e
section
variable {fs : List Int} {m : Mv}
theorem tk_off {k : Nat} : ∀ t, k < fs.length → (∀ j, j < t → m.leg fs.length j ≠ k) → nt (tk fs m t) k = nt fs k
  | 0, _, _ => rfl
  | t + 1, hk, h => by
    show nt ((tk fs m t).set _ _) k = _
    rw [nt_set (by rw [tk_len]; exact hk), if_neg fun e => h t (by omega) e.symm]
    exact tk_off t hk fun j hj => h j (by omega)
theorem tk_on (hs : m.s < fs.length) (hd : m.d < fs.length) {j : Nat} : ∀ t, t ≤ m.d → j < t → nt (tk fs m t) (m.leg fs.length j) = nt fs (m.leg fs.length j) - m.sg
  | 0, _, h => by omega
  | t + 1, ht, h => by
    have hn : 0 < fs.length := by omega
    show nt ((tk fs m t).set _ _) _ = _
    rw [nt_set (by rw [tk_len]; exact leg_lt hn)]
    by_cases e : m.leg fs.length j = m.leg fs.length t
    · have ej : j = t := leg_inj hs (by omega) (by omega) e
      subst ej
      rw [if_pos rfl, tk_off (k := m.leg fs.length j) j (leg_lt hn) fun i hi e2 => by
        have := leg_inj hs (by omega) (by omega) e2
        omega]
    · rw [if_neg e]
      exact tk_on hs hd t (by omega) (by
        by_cases z : j = t
        · exact absurd (by rw [z]) e
        · omega)
theorem tk_next (hs : m.s < fs.length) (hd : m.d < fs.length) {t : Nat} (ht : t < m.d) : nt (tk fs m t) (m.leg fs.length t) = nt fs (m.leg fs.length t) :=
  tk_off (k := m.leg fs.length t) t (leg_lt (by omega)) fun i hi e2 => by
    have := leg_inj hs (by omega) (by omega) e2
    omega
def app (fs : List Int) (m : Mv) : List Int := tk fs m m.d
theorem app_len : (app fs m).length = fs.length := tk_len _ _ _
/-- the flows at the ports -/
theorem app_F (hs : m.s < fs.length) (hd : m.d < fs.length) (hf : m.fwd = true) {j : Nat} (hj : j < fs.length) : nt (app fs m) (portF fs.length m.s j) = nt fs (portF fs.length m.s j) - (if j < m.d then m.c else 0) := by
  have el : ∀ t, m.leg fs.length t = portF fs.length m.s t := fun t => by unfold Mv.leg Qk68.leg port; rw [hf]; rfl
  by_cases z : j < m.d
  · rw [if_pos z]
    have := tk_on (m := m) hs hd m.d (Nat.le_refl _) z
    rw [el] at this
    unfold app
    rw [this]
    unfold Mv.sg; rw [if_pos hf]
  · rw [if_neg z]
    unfold app
    rw [tk_off m.d (pF_lt (by omega)) fun i hi e => by
      rw [el] at e
      have := portF_inj hs (by omega) hj e
      omega]
    omega
theorem app_B (hs : m.s < fs.length) (hd : m.d < fs.length) (hf : m.fwd = false) {j : Nat} (hj : j < fs.length) : nt (app fs m) (portB fs.length m.s j) = nt fs (portB fs.length m.s j) + (if 1 ≤ j ∧ j ≤ m.d then m.c else 0) := by
  have el : ∀ t, m.leg fs.length t = portB fs.length m.s (t + 1) := fun t => by unfold Mv.leg Qk68.leg port; rw [hf]; rfl
  by_cases z : 1 ≤ j ∧ j ≤ m.d
  · rw [if_pos z]
    have := tk_on (m := m) hs hd m.d (Nat.le_refl _) (show j - 1 < m.d by omega)
    rw [el, show j - 1 + 1 = j by omega] at this
    unfold app
    rw [this]
    unfold Mv.sg; rw [hf]
    show _ - (-m.c) = _
    omega
  · rw [if_neg z]
    unfold app
    rw [tk_off m.d (pB_lt (by omega)) fun i hi e => by
      rw [el] at e
      have := portB_inj hs (by omega) hj e
      omega]
    omega
theorem exc_app (N : Nx fs m) {k : Nat} (hk : k < fs.length) : nt (exc (app fs m)) k = nt (exc fs) k - (if k = m.s then m.c else 0) + (if k = m.stop fs.length then m.c else 0) := by
  have hs := N.lt
  have hd := N.meet.lt
  have h1 := N.meet.one
  have hn : 0 < fs.length := by omega
  rw [exc_nt (by rw [app_len]; exact hk), exc_nt hk]
  cases hf : m.fwd with
  | true =>
    obtain ⟨j, hj, rfl⟩ := port_surj true hs hk
    have es : (port fs.length m.s true j = m.s) ↔ j = 0 := ⟨fun e => port_inj (fwd := true) hs hj (by omega) (e.trans (port_zero hs).symm), fun e => by rw [e]; exact port_zero hs⟩
    have et : (port fs.length m.s true j = m.stop fs.length) ↔ j = m.d := by
      unfold Mv.stop; rw [hf]
      exact ⟨fun e => port_inj (fwd := true) hs hj hd e, fun e => by rw [e]⟩
    rw [show (if port fs.length m.s true j = m.s then m.c else 0) = if j = 0 then m.c else 0 from by simp only [es], show (if port fs.length m.s true j = m.stop fs.length then m.c else 0) = if j = m.d then m.c else 0 from by simp only [et]]
    show nt (app fs m) (portF _ _ j) - pv (app fs m) (portF _ _ j) = nt fs (portF _ _ j) - pv fs (portF _ _ j) - _ + _
    rw [app_F hs hd hf hj]
    cases j with
    | zero =>
      have e0 : portF fs.length m.s 0 = portF fs.length m.s (fs.length - 1 + 1) := by rw [show fs.length - 1 + 1 = fs.length by omega, portF_back hs]; exact port_zero (fwd := true) hs
      have v1 := pv_F (fs := fs) (s := m.s) (t := fs.length - 1) hn
      have v2 := pv_F (fs := app fs m) (s := m.s) (t := fs.length - 1) (by rw [app_len]; exact hn)
      rw [app_len] at v2
      rw [← e0] at v1 v2
      rw [v1, v2, app_F hs hd hf (by omega), if_pos (show 0 < m.d by omega), if_neg (show ¬ fs.length - 1 < m.d by omega), if_pos rfl, if_neg (show ¬ 0 = m.d by omega)]
      omega
    | succ j =>
      have v1 := pv_F (fs := fs) (s := m.s) (t := j) hn
      have v2 := pv_F (fs := app fs m) (s := m.s) (t := j) (by rw [app_len]; exact hn)
      rw [app_len] at v2
      rw [v1, v2, app_F hs hd hf (by omega), if_neg (show ¬ j + 1 = 0 by omega)]
      by_cases a : j + 1 < m.d
      · rw [if_pos a, if_pos (by omega), if_neg (by omega)]; omega
      · by_cases b : j + 1 = m.d
        · rw [if_neg a, if_pos (by omega), if_pos b]; omega
        · rw [if_neg a, if_neg (by omega), if_neg b]; omega
  | false =>
    obtain ⟨j, hj, rfl⟩ := port_surj false hs hk
    have es : (port fs.length m.s false j = m.s) ↔ j = 0 := ⟨fun e => port_inj (fwd := false) hs hj (by omega) (e.trans (port_zero hs).symm), fun e => by rw [e]; exact port_zero hs⟩
    have et : (port fs.length m.s false j = m.stop fs.length) ↔ j = m.d := by
      unfold Mv.stop; rw [hf]
      exact ⟨fun e => port_inj (fwd := false) hs hj hd e, fun e => by rw [e]⟩
    rw [show (if port fs.length m.s false j = m.s then m.c else 0) = if j = 0 then m.c else 0 from by simp only [es], show (if port fs.length m.s false j = m.stop fs.length then m.c else 0) = if j = m.d then m.c else 0 from by simp only [et]]
    show nt (app fs m) (portB _ _ j) - pv (app fs m) (portB _ _ j) = nt fs (portB _ _ j) - pv fs (portB _ _ j) - _ + _
    have v1 := pv_B (fs := fs) (s := m.s) (t := j) hn
    have v2 := pv_B (fs := app fs m) (s := m.s) (t := j) (by rw [app_len]; exact hn)
    rw [app_len] at v2
    rw [v1, v2, app_B hs hd hf hj]
    by_cases l : j + 1 = fs.length
    · have e0 : portB fs.length m.s (j + 1) = portB fs.length m.s 0 := by rw [l, portB_back hs]; exact (port_zero (fwd := false) hs).symm
      rw [e0, app_B hs hd hf hn, if_neg (show ¬ (1 ≤ 0 ∧ 0 ≤ m.d) by omega), if_neg (show ¬ j = 0 by omega)]
      by_cases b : j = m.d
      · rw [if_pos (by omega), if_pos b]; omega
      · rw [if_neg (by omega), if_neg b]; omega
    · rw [app_B hs hd hf (show j + 1 < fs.length by omega)]
      by_cases z : j = 0
      · rw [if_neg (by omega), if_pos (by omega), if_pos z, if_neg (by omega)]; omega
      · rw [if_neg (show ¬ j = 0 from z)]
        by_cases a : j + 1 ≤ m.d
        · rw [if_pos (by omega), if_pos (by omega), if_neg (by omega)]; omega
        · by_cases b : j = m.d
          · rw [if_pos (by omega), if_neg (by omega), if_pos b]; omega
          · rw [if_neg (by omega), if_neg (by omega), if_neg b]; omega
end
end Qk68
set_option Elab.async false
set_option linter.all false
set_option maxRecDepth 100000
set_option maxHeartbeats 4000000
namespace Qk68
open PySem PySem.Spec PyProof.Rows L2 DL
/-! ### how many numbers are not 0 -/
def nz (l : List Int) : Nat := (l.filter fun x => decide (x ≠ 0)).length
theorem nz_cons (x : Int) (l : List Int) : nz (x :: l) = (if x = 0 then 0 else 1) + nz l := by
  unfold nz
  rw [List.filter_cons]
  by_cases h : x = 0
  · rw [if_neg (by simp [h]), if_pos h]; omega
  · rw [if_pos (by simp [h]), if_neg h, List.length_cons]; omega
theorem nz_le_len : ∀ l : List Int, nz l ≤ l.length
  | [] => Nat.le_refl _
  | x :: l => by
    have := nz_le_len l
    rw [nz_cons, List.length_cons]; split <;> omega
theorem nz_lt : ∀ (l : List Int) (k : Nat), k < l.length → nt l k = 0 → nz l < l.length
  | [], k, h, _ => by simp at h
  | x :: l, 0, _, e => by
    have e : x = 0 := e
    have := nz_le_len l
    rw [nz_cons, if_pos e, List.length_cons]; omega
  | x :: l, k + 1, h, e => by
    have ih := nz_lt l k (by simpa using h) e
    rw [nz_cons, List.length_cons]; split <;> omega
theorem nz_mono : ∀ (a b : List Int), a.length = b.length → (∀ k, k < a.length → nt a k = 0 → nt b k = 0) → nz b ≤ nz a
  | [], [], _, _ => Nat.le_refl _
  | [], _ :: _, h, _ => by simp at h
  | _ :: _, [], h, _ => by simp at h
  | x :: a, y :: b, h, g => by
    have ih := nz_mono a b (by simpa using h) fun k hk e => g (k + 1) (by simpa using hk) e
    have g0 : x = 0 → y = 0 := fun e => g 0 (by simp) e
    rw [nz_cons, nz_cons]
    split <;> split <;> omega
theorem nz_drop : ∀ (a b : List Int) (k : Nat), a.length = b.length → (∀ k, k < a.length → nt a k = 0 → nt b k = 0) → k < a.length → nt a k ≠ 0 → nt b k = 0 → nz b < nz a
  | [], _, k, _, _, h, _, _ => by simp at h
  | _ :: _, [], _, h, _, _, _, _ => by simp at h
  | x :: a, y :: b, 0, h, g, _, e1, e2 => by
    have ih := nz_mono a b (by simpa using h) fun k hk e => g (k + 1) (by simpa using hk) e
    have e1 : x ≠ 0 := e1
    have e2 : y = 0 := e2
    rw [nz_cons, nz_cons, if_pos e2, if_neg e1]; omega
  | x :: a, y :: b, k + 1, h, g, hk, e1, e2 => by
    have ih := nz_drop a b k (by simpa using h) (fun k hk e => g (k + 1) (by simpa using hk) e) (by simpa using hk) e1 e2
    have g0 : x = 0 → y = 0 := fun e => g 0 (by simp) e
    rw [nz_cons, nz_cons]
    split <;> split <;> omega
section
variable {fs : List Int} {m : Mv}
theorem Nx.c_pos (N : Nx fs m) : 0 < m.c ∧ m.c ≤ nt (exc fs) m.s ∧ m.c ≤ -nt (exc fs) (m.stop fs.length) ∧ m.c ≤ (nt fs (m.leg fs.length 0)).natAbs := by
  have hp := N.pos
  have hn := N.meet.neg
  have cr := carry N.meet N.lt N.pos N.dir 0 N.meet.one
  have hc := N.cnt
  have e : nt fs (m.leg fs.length 0) ≠ 0 := by
    cases hf : m.fwd with
    | true => have := (cr.1 hf).1; unfold Mv.leg; omega
    | false => have := (cr.2 hf).1; unfold Mv.leg; omega
  have hn' : nt (exc fs) (m.stop fs.length) < 0 := hn
  omega
/-- what a leg carries before and after -/
theorem leg_between (N : Nx fs m) {t : Nat} (ht : t < m.d) : (m.fwd = true → m.c ≤ nt fs (m.leg fs.length t)) ∧ (m.fwd = false → nt fs (m.leg fs.length t) ≤ -m.c) := by
  have cr := carry N.meet N.lt N.pos N.dir t ht
  have c := N.c_pos
  constructor
  · intro hf
    have := cr.1 hf
    unfold Mv.leg at c ⊢; omega
  · intro hf
    have := cr.2 hf
    unfold Mv.leg at c ⊢; omega
/-- between 0 and a number -/
def Btw (x y : Int) : Prop := (0 ≤ x ∧ x ≤ y) ∨ (y ≤ x ∧ x ≤ 0)
theorem Btw.refl (x : Int) : Btw x x := by unfold Btw; omega
theorem Btw.trans {x y z : Int} (a : Btw x y) (b : Btw y z) : Btw x z := by unfold Btw at *; omega
theorem app_btw (N : Nx fs m) {k : Nat} (hk : k < fs.length) : Btw (nt (app fs m) k) (nt fs k) := by
  by_cases h : ∃ j, j < m.d ∧ m.leg fs.length j = k
  · obtain ⟨j, hj, rfl⟩ := h
    unfold app
    rw [tk_on N.lt N.meet.lt m.d (Nat.le_refl _) hj]
    have b := leg_between N hj
    have c := N.c_pos
    unfold Mv.sg Btw
    cases hf : m.fwd with
    | true => rw [if_pos rfl]; have := b.1 hf; omega
    | false => rw [if_neg (by decide)]; have := b.2 hf; omega
  · unfold app
    rw [tk_off m.d hk fun j hj e => h ⟨j, hj, e⟩]
    exact Btw.refl _
theorem app_zero (N : Nx fs m) {k : Nat} (hk : k < fs.length) (h : nt fs k = 0) : nt (app fs m) k = 0 := by
  have := app_btw N hk
  unfold Btw at this; omega
theorem stop_lt (N : Nx fs m) : m.stop fs.length < fs.length := port_lt (by have := N.lt; omega)
theorem stop_ne (N : Nx fs m) : m.s ≠ m.stop fs.length := fun e => by
  have := N.pos
  have h2 : nt (exc fs) (m.stop fs.length) < 0 := N.meet.neg
  rw [← e] at h2
  omega
theorem exc_zero (N : Nx fs m) {k : Nat} (hk : k < fs.length) (h : nt (exc fs) k = 0) : nt (exc (app fs m)) k = 0 := by
  have c := N.c_pos
  rw [exc_app N hk, if_neg fun e => by rw [e] at h; omega, if_neg fun e => by rw [e] at h; omega]
  omega
/-- each move leaves less -/
def mu (fs : List Int) : Nat := nz fs + nz (exc fs)
theorem mu_lt (N : Nx fs m) : mu (app fs m) < mu fs := by
  have c := N.c_pos
  have hs := N.lt
  have hn : 0 < fs.length := by omega
  have m1 := nz_mono fs (app fs m) (by rw [app_len]) fun k hk e => app_zero N hk e
  have m2 := nz_mono (exc fs) (exc (app fs m)) (by rw [exc_len, exc_len, app_len]) fun k hk e => exc_zero N (by rw [exc_len] at hk; exact hk) e
  have l0 : m.leg fs.length 0 < fs.length := leg_lt hn
  unfold mu
  have hc := N.cnt
  by_cases a : m.c = nt (exc fs) m.s
  · have := nz_drop (exc fs) (exc (app fs m)) m.s (by rw [exc_len, exc_len, app_len]) (fun k hk e => exc_zero N (by rw [exc_len] at hk; exact hk) e) (by rw [exc_len]; exact hs) (by omega) (by
      rw [exc_app N hs, if_pos rfl, if_neg (stop_ne N)]; omega)
    omega
  · by_cases b : m.c = -nt (exc fs) (m.stop fs.length)
    · have := nz_drop (exc fs) (exc (app fs m)) (m.stop fs.length) (by rw [exc_len, exc_len, app_len]) (fun k hk e => exc_zero N (by rw [exc_len] at hk; exact hk) e) (by rw [exc_len]; exact stop_lt N) (by omega) (by
        rw [exc_app N (stop_lt N), if_neg fun e => stop_ne N e.symm, if_pos rfl]; omega)
      omega
    · have h3 : m.c = ((nt fs (m.leg fs.length 0)).natAbs : Int) := by omega
      have := nz_drop fs (app fs m) (m.leg fs.length 0) (by rw [app_len]) (fun k hk e => app_zero N hk e) l0 (by omega) (by
        unfold app
        rw [tk_on N.lt N.meet.lt m.d (Nat.le_refl _) N.meet.one]
        have b := leg_between N N.meet.one
        unfold Mv.sg
        cases hf : m.fwd with
        | true => rw [if_pos rfl]; have := b.1 hf; omega
        | false => rw [if_neg (by decide)]; have := b.2 hf; omega)
      omega
end
/-! ### the run of moves -/
def Done (fs : List Int) : Prop := ∀ j, j < fs.length → nt (exc fs) j ≤ 0
inductive Run : List Int → List Mv → Prop where
  | nil {fs} : Done fs → Run fs []
  | cons {fs m ms} : Nx fs m → Run (app fs m) ms → Run fs (m :: ms)
theorem nx_ex (fs : List Int) : Done fs ∨ ∃ m, Nx fs m := by
  by_cases h : Done fs
  · exact .inl h
  · right
    have hex : ∃ k, k < fs.length ∧ 0 < nt (exc fs) k := by
      refine Classical.byContradiction fun no => h fun j hj => ?_
      refine Int.not_lt.mp fun z => no ⟨j, hj, z⟩
    have key : ∀ k, k < fs.length → 0 < nt (exc fs) k → ∃ s, s < fs.length ∧ 0 < nt (exc fs) s ∧ ∀ j, j < s → nt (exc fs) j ≤ 0 := by
      intro k
      induction k using Nat.strongRecOn with
      | _ k ih =>
        intro h1 h2
        by_cases z : ∃ j, j < k ∧ 0 < nt (exc fs) j
        · obtain ⟨j, j1, j2⟩ := z
          exact ih j j1 (by omega) j2
        · exact ⟨k, h1, h2, fun j hj => Int.not_lt.mp fun y => z ⟨j, hj, y⟩⟩
    obtain ⟨k, k1, k2⟩ := hex
    obtain ⟨s, s1, s2, s3⟩ := key k k1 k2
    obtain ⟨d, M⟩ := meet (fwd := decide (0 < nt fs s)) s1 s2
    exact ⟨⟨s, decide (0 < nt fs s), d, min (min (nt (exc fs) s) (-nt (exc fs) (port fs.length s (decide (0 < nt fs s)) d))) ((nt fs (Qk68.leg fs.length s (decide (0 < nt fs s)) 0)).natAbs : Int)⟩, s1, s2, s3, rfl, M, rfl⟩
theorem run_ex : ∀ (k : Nat) (fs : List Int), mu fs ≤ k → ∃ ms, Run fs ms ∧ ms.length ≤ mu fs
  | k, fs, h => by
    rcases nx_ex fs with d | ⟨m, N⟩
    · exact ⟨[], .nil d, Nat.zero_le _⟩
    · have l := mu_lt N
      cases k with
      | zero => omega
      | succ k =>
        obtain ⟨ms, r, hl⟩ := run_ex k (app fs m) (by omega)
        exact ⟨m :: ms, .cons N r, by rw [List.length_cons]; omega⟩
theorem run_len {fs : List Int} {ms : List Mv} (r : Run fs ms) : ms.length ≤ mu fs := by
  induction r with
  | nil _ => exact Nat.zero_le _
  | cons N _ ih => have := mu_lt N; rw [List.length_cons]; omega
theorem done_no {fs : List Int} {m : Mv} (d : Done fs) (N : Nx fs m) : False := by
  have := d m.s N.lt
  have := N.pos
  omega
/-- at the end nothing flows -/
theorem done_zero {fs : List Int} (d : Done fs) (z : ∃ k, k < fs.length ∧ nt fs k = 0) : ∀ k, k < fs.length → nt fs k = 0 := by
  obtain ⟨u, u1, u2⟩ := z
  have st : ∀ k, k + 1 < fs.length → nt fs (k + 1) ≤ nt fs k := fun k hk => by
    have := d (k + 1) hk
    rw [exc_nt hk] at this
    unfold pv at this
    rw [if_neg (by omega), Nat.add_sub_cancel] at this
    omega
  have le : ∀ (j i : Nat), i ≤ j → j < fs.length → nt fs j ≤ nt fs i := by
    intro j
    induction j with
    | zero => intro i h1 _; rw [show i = 0 by omega]; exact Int.le_refl _
    | succ j ih =>
      intro i h1 h2
      by_cases e : i = j + 1
      · rw [e]; exact Int.le_refl _
      · have a := ih i (by omega) (by omega)
        have b := st j h2
        omega
  intro k hk
  have w := d 0 (by omega)
  rw [exc_nt (by omega)] at w
  unfold pv at w
  rw [if_pos rfl] at w
  have a1 := le k 0 (by omega) hk
  have a2 := le (fs.length - 1) k (by omega) (by omega)
  have b1 := le u 0 (by omega) u1
  have b2 := le (fs.length - 1) u (by omega) (by omega)
  omega
theorem app_unused {fs : List Int} {m : Mv} (N : Nx fs m) (z : ∃ k, k < fs.length ∧ nt fs k = 0) : ∃ k, k < (app fs m).length ∧ nt (app fs m) k = 0 := by
  obtain ⟨u, u1, u2⟩ := z
  exact ⟨u, by rw [app_len]; exact u1, app_zero N u1 u2⟩
theorem mu_few {fs : List Int} (z : ∃ k, k < fs.length ∧ nt fs k = 0) : mu fs < 2 * fs.length := by
  obtain ⟨u, u1, u2⟩ := z
  have a := nz_lt fs u u1 u2
  have b := nz_le_len (exc fs)
  rw [exc_len] at b
  unfold mu; omega
end Qk68
namespace Qk68
open PySem PySem.Spec PyProof.Rows L2 DL
theorem meet_one {fs : List Int} {s : Nat} {fwd : Bool} {d e : Nat} (a : Meet fs s fwd d) (b : Meet fs s fwd e) : d = e := by
  by_cases h : d < e
  · have := b.pos d h
    have := a.neg
    omega
  · by_cases g : e < d
    · have := a.pos e g
      have := b.neg
      omega
    · omega
theorem nx_one {fs : List Int} {m k : Mv} (a : Nx fs m) (b : Nx fs k) : m = k := by
  have es : m.s = k.s := by
    by_cases h : m.s < k.s
    · have := b.fst m.s h
      have := a.pos
      omega
    · by_cases g : k.s < m.s
      · have := a.fst k.s g
        have := b.pos
        omega
      · omega
  have ef : m.fwd = k.fwd := by rw [a.dir, b.dir, es]
  have ed : m.d = k.d := meet_one (by have := a.meet; rw [es, ef] at this; exact this) b.meet
  have ec : m.c = k.c := by
    rw [a.cnt, b.cnt]
    unfold Mv.stop Mv.leg
    rw [es, ef, ed]
  cases m; cases k
  simp only at es ef ed ec
  rw [es, ef, ed, ec]
end Qk68
set_option Elab.async false
set_option linter.all false
set_option maxRecDepth 100000
set_option maxHeartbeats 8000000
namespace Qk68
open PySem PySem.Spec PyProof.Rows L2 DL
local macro_rules | `(tactic| walk_at "w") => `(tactic| (refine evI ?_; simp only [entry, List.length_nil, List.length_cons, List.map_nil, List.map_cons, List.replicate_succ, List.replicate_zero, Nat.reduceSub, Nat.reduceAdd, List.cons_append, List.nil_append, List.length_map, ↓ev_ev, ↓ev_and, ↓ev_all, ↓ev_ifT, ↓ev_ifF, ↓ev_ifN, ↓ev_ow_int, ↓ev_ow_bl, ↓ev_ow_non, ↓ev_ow_str, ↓ev_ow_cv, ↓ev_ow_prD, ↓ev_ow_tup, ↓ev_ow_lst, ↓ev_ow_lsk, ↓ev_ows_nil, ↓ev_ows_cons, ↓ev_ows_app, ↓ev_ows_int, ↓ev_ows_prD, ↓ev_sz0, ↓ev_sz1, ↓ev_sz2, ↓ev_sz3, ↓ev_sz4, ↓ev_sz5, ↓ev_sz6, ↓ev_sz7, ↓ev_sz8, ↓ev_c, ↓ev_op, ↓ev_neg, ↓ev_negI, ↓ev_ix, ↓ev_ixT, ↓ev_ixL, ↓ev_ixK, ↓ev_ixP0, ↓ev_ixP1, ↓ev_at0, ↓ev_at1, ↓ev_at2, ↓ev_at3, ↓ev_at4, ↓ev_at5, ↓ev_at6, ↓ev_at7, ↓ev_len, ↓ev_lenT, ↓ev_lenL, ↓ev_lenK, ↓ev_rdI0, ↓ev_rdI, ↓ev_rdAdd, ↓ev_rdSub, ↓ev_rdLt, ↓ev_rdLe, ↓ev_rdGt, ↓ev_rdGe, ↓ev_rdMul, ↓ev_rdFdiv, ↓ev_rdMod, ↓ev_rdEqI, ↓ev_rdEqS, ↓ev_rdNeI, ↓ev_rdNeS, ↓ev_isN_int, ↓ev_notN_int, ↓ev_isN_bl, ↓ev_notN_bl, ↓ev_isN_str, ↓ev_notN_str, ↓ev_isN_tup, ↓ev_notN_tup, ↓ev_isN_lst, ↓ev_notN_lst, ↓ev_isN_lsk, ↓ev_notN_lsk, ↓ev_isN_non, ↓ev_notN_non, ↓ev_pure, ↓ev_keep, ↓ev_keep_lst, ↓ev_keep_tup, ↓ev_keep_int, ↓ev_keep_non, ↓ev_keep_bl, ↓ev_keep_str, ↓ev_keep_lsk, ↓ev_keepP, ↓ev_keepS, ↓ev_eop, ↓ev_tup, ↓ev_lst, ↓ev_vs_nil, ↓ev_vs_1, ↓ev_vs_2, ↓ev_vs_3, ↓ev_vs_4, ↓ev_vs_5, ↓ev_vs_6, ↓ev_vs_7, ↓ev_eif, ↓ev_eand, ↓ev_andQ, ↓ev_eor, ↓ev_orQ, ↓ev_enot, ↓ev_notQ, ↓ev_enotT, ↓ev_eneg, ↓ev_eix, ↓ev_ixDT, ↓ev_ixDL, ↓ev_ixDP0, ↓ev_ixDP1, ↓ev_elen, ↓ev_callB, ↓ev_rdInt, ↓ev_rdMax, ↓ev_rdMin, ↓ev_rdAbs, ↓ev_call, ↓ev_res_nil, ↓ev_res_val, ↓ev_give_nil, ↓ev_give_val, ↓ev_app, ↓ev_appQ, ↓ev_pop, ↓ev_listP, ↓ev_listE, ↓ev_tupP, ↓ev_tupE, ↓ev_seq_tup, ↓ev_seq_lst, ↓ev_seq_lsk, ↓ev_cat, ↓ev_catQ, ↓ev_catQ2, ↓ev_catT, ↓ev_catTQ, ↓ev_catTQ2, ↓ev_rep, ↓ev_repQ, ↓ev_repQ2, ↓ev_slc, ↓ev_slcT, ↓ev_slcL, ↓ev_slcE, ↓ev_slcET, ↓ev_slcEL, ↓ev_poN, ↓ev_poS, ↓ev_iq, ↓ev_lc, ↓ev_wp1, ↓ev_wp2, ↓ev_wp3, ↓ev_ixS, ↓ev_lenS, ↓ev_seqS, ↓ev_walkS, ↓ev_owS, ↓ev_stry, ↓ev_listRg, ↓ev_lrg, ↓ev_anil, ↓ev_aval, ↓ev_alend, ↓ev_lendA, ↓ev_astar, ↓ev_tpure, ↓ev_bq, ↓ev_topd, ↓ev_ttruP, ↓ev_ttru, ↓ev_truB, ↓ev_truN, ↓ev_truT0, ↓ev_truT1, ↓ev_truL0, ↓ev_truL1, ↓ev_tnot, ↓ev_tand, ↓ev_tor, ↓ev_tall, ↓ev_tch, ↓ev_chq, ↓ev_isq, ↓ev_walkT, ↓ev_walkL, ↓ev_walkK, ↓ev_itp, ↓ev_tpI, ↓ev_ils, ↓ev_lsI, ↓ev_lsK, ↓ev_irg1, ↓ev_rg1, ↓ev_irg2, ↓ev_rg2, ↓ev_ienum, ↓ev_enumL, ↓ev_enumK, ↓ev_ienumT, ↓ev_gnm, ↓ev_gtp, ↓ev_tpq1, ↓ev_tpq2, ↓ev_tpq3, ↓ev_tpq4, ↓ev_tpq5, ↓ev_tpq6, ↓ev_tpqP, ↓ev_gsnil, ↓ev_gscons, ↓ev_sseq, ↓ev_snext, ↓ev_sbrk, ↓ev_scnt, ↓ev_sdrop, ↓ev_sret, ↓ev_sretn, ↓ev_sif, ↓ev_sset, ↓ev_sasg, ↓ev_sfor, ↓ev_swhile, ↓ev_ssetix, ↓ev_setixq, ↓ev_sraise, ↓ev_lnq, ↓ev_lnq0, ↓ev_spar, ↓ev_parq, ↓ev_var0, ↓ev_set0, ↓ev_mov0, ↓ev_frz0, ↓ev_frzT0, ↓ev_lv0, ↓ev_app2_0, ↓ev_aug0, ↓ev_augq0, ↓ev_setixn0, ↓ev_popq0, ↓ev_lend0, ↓ev_giveL0, ↓ev_var1, ↓ev_set1, ↓ev_mov1, ↓ev_frz1, ↓ev_frzT1, ↓ev_lv1, ↓ev_app2_1, ↓ev_aug1, ↓ev_augq1, ↓ev_setixn1, ↓ev_popq1, ↓ev_lend1, ↓ev_giveL1, ↓ev_var2, ↓ev_set2, ↓ev_mov2, ↓ev_frz2, ↓ev_frzT2, ↓ev_lv2, ↓ev_app2_2, ↓ev_aug2, ↓ev_augq2, ↓ev_setixn2, ↓ev_popq2, ↓ev_lend2, ↓ev_giveL2, ↓ev_var3, ↓ev_set3, ↓ev_mov3, ↓ev_frz3, ↓ev_frzT3, ↓ev_lv3, ↓ev_app2_3, ↓ev_aug3, ↓ev_augq3, ↓ev_setixn3, ↓ev_popq3, ↓ev_lend3, ↓ev_giveL3, ↓ev_var4, ↓ev_set4, ↓ev_mov4, ↓ev_frz4, ↓ev_frzT4, ↓ev_lv4, ↓ev_app2_4, ↓ev_aug4, ↓ev_augq4, ↓ev_setixn4, ↓ev_popq4, ↓ev_lend4, ↓ev_giveL4, ↓ev_var5, ↓ev_set5, ↓ev_mov5, ↓ev_frz5, ↓ev_frzT5, ↓ev_lv5, ↓ev_app2_5, ↓ev_aug5, ↓ev_augq5, ↓ev_setixn5, ↓ev_popq5, ↓ev_lend5, ↓ev_giveL5, ↓ev_var6, ↓ev_set6, ↓ev_mov6, ↓ev_frz6, ↓ev_frzT6, ↓ev_lv6, ↓ev_app2_6, ↓ev_aug6, ↓ev_augq6, ↓ev_setixn6, ↓ev_popq6, ↓ev_lend6, ↓ev_giveL6, ↓ev_var7, ↓ev_set7, ↓ev_mov7, ↓ev_frz7, ↓ev_frzT7, ↓ev_lv7, ↓ev_app2_7, ↓ev_aug7, ↓ev_augq7, ↓ev_setixn7, ↓ev_popq7, ↓ev_lend7, ↓ev_giveL7, ↓ev_var8, ↓ev_set8, ↓ev_mov8, ↓ev_frz8, ↓ev_frzT8, ↓ev_lv8, ↓ev_app2_8, ↓ev_aug8, ↓ev_augq8, ↓ev_setixn8, ↓ev_popq8, ↓ev_lend8, ↓ev_giveL8, ↓ev_var9, ↓ev_set9, ↓ev_mov9, ↓ev_frz9, ↓ev_frzT9, ↓ev_lv9, ↓ev_app2_9, ↓ev_aug9, ↓ev_augq9, ↓ev_setixn9, ↓ev_popq9, ↓ev_lend9, ↓ev_giveL9, ↓ev_var10, ↓ev_set10, ↓ev_mov10, ↓ev_frz10, ↓ev_frzT10, ↓ev_lv10, ↓ev_app2_10, ↓ev_aug10, ↓ev_augq10, ↓ev_setixn10, ↓ev_popq10, ↓ev_lend10, ↓ev_giveL10, ↓ev_var11, ↓ev_set11, ↓ev_mov11, ↓ev_frz11, ↓ev_frzT11, ↓ev_lv11, ↓ev_app2_11, ↓ev_aug11, ↓ev_augq11, ↓ev_setixn11, ↓ev_popq11, ↓ev_lend11, ↓ev_giveL11, ↓ev_var12, ↓ev_set12, ↓ev_mov12, ↓ev_frz12, ↓ev_frzT12, ↓ev_lv12, ↓ev_app2_12, ↓ev_aug12, ↓ev_augq12, ↓ev_setixn12, ↓ev_popq12, ↓ev_lend12, ↓ev_giveL12, ↓ev_var13, ↓ev_set13, ↓ev_mov13, ↓ev_frz13, ↓ev_frzT13, ↓ev_lv13, ↓ev_app2_13, ↓ev_aug13, ↓ev_augq13, ↓ev_setixn13, ↓ev_popq13, ↓ev_lend13, ↓ev_giveL13, ↓ev_var14, ↓ev_set14, ↓ev_mov14, ↓ev_frz14, ↓ev_frzT14, ↓ev_lv14, ↓ev_app2_14, ↓ev_aug14, ↓ev_augq14, ↓ev_setixn14, ↓ev_popq14, ↓ev_lend14, ↓ev_giveL14, ↓ev_var15, ↓ev_set15, ↓ev_mov15, ↓ev_frz15, ↓ev_frzT15, ↓ev_lv15, ↓ev_app2_15, ↓ev_aug15, ↓ev_augq15, ↓ev_setixn15, ↓ev_popq15, ↓ev_lend15, ↓ev_giveL15, ↓ev_enS0, ↓ev_enT0, ↓ev_enL0, ↓ev_enS1, ↓ev_enT1, ↓ev_enL1, ↓ev_enS2, ↓ev_enT2, ↓ev_enL2, ↓ev_enS3, ↓ev_enT3, ↓ev_enL3, ↓ev_enS4, ↓ev_enT4, ↓ev_enL4, ↓ev_enS5, ↓ev_enT5, ↓ev_enL5, ↓ev_enS6, ↓ev_enT6, ↓ev_enL6, ↓ev_enS7, ↓ev_enT7, ↓ev_enL7, ↓ev_enS8, ↓ev_enT8, ↓ev_enL8, ↓ev_enS9, ↓ev_enT9, ↓ev_enL9, ↓ev_enS10, ↓ev_enT10, ↓ev_enL10, ↓ev_enS11, ↓ev_enT11, ↓ev_enL11, ↓ev_enS12, ↓ev_enT12, ↓ev_enL12, ↓ev_enS13, ↓ev_enT13, ↓ev_enL13, ↓ev_enS14, ↓ev_enT14, ↓ev_enL14, ↓ev_enS15, ↓ev_enT15, ↓ev_enL15, ↓ev_adq, ↓ev_rdAny, ↓ev_rdAll, ↓ev_rdSum, ↓ev_rdMaxL, ↓ev_rdMinL, ↓ev_ext, ↓ev_extQ, ↓ev_zip, ↓ev_zipT, ↓ev_zipL, ↓ev_pch, ↓ev_pchq, ↓ev_repP, ↓ev_repPQ, ↓ev_ext2_0, ↓ev_ext2_1, ↓ev_ext2_2, ↓ev_ext2_3, ↓ev_ext2_4, ↓ev_ext2_5, ↓ev_ext2_6, ↓ev_ext2_7, ↓ev_ext2_8, ↓ev_ext2_9, ↓ev_ext2_10, ↓ev_ext2_11, ↓ev_ext2_12, ↓ev_ext2_13, ↓ev_ext2_14, ↓ev_ext2_15, ↓ev_stryM, ↓ev_raise0, ↓ev_isB, ↓ev_notB, ↓ev_zip4, ↓ev_sumP, ↓ev_sumQ, ↓ev_sortI, ↓ev_sort2, ↓ev_augix, ↓ev_augixr0, ↓ev_augixr1, ↓ev_augixr2, ↓ev_augixr3, ↓ev_augixr4, ↓ev_augixr5, ↓ev_augixr6, ↓ev_augixr7, ↓ev_augixr8, ↓ev_augixr9, ↓ev_augixr10, ↓ev_augixr11, ↓ev_augixr12, ↓ev_augixr13, ↓ev_augixr14, ↓ev_augixr15, ↓ev_rdI3, ↓ev_setixe, ↓ev_setixeq, ev_fr1_lst, ev_fr1_tup, ev_fr1_int, ev_fr1_non, ev_fr1_bl, ev_fr1_str, ev_fr1_lsk, ev_fr1S, ev_addrP, ev_addrL]))
local macro_rules | `(tactic| walk_at "d") => `(tactic| first
  | refine And.intro (by first | assumption | omega | exact mul_smallL (by omega) (by omega) | exact mul_small (by omega) (by omega) | exact divw (by omega) (by omega) | exact rg_of (by omega) (by omega) | exact RgOk.of_le (by omega) (by omega) (by omega) (by omega) | exact lenok (by first | omega | (simp only [List.length_map, List.length_append, List.length_cons, List.length_nil, List.length_take, List.length_drop]; omega))) ?_
  | refine ow (by first | assumption | (simp only [own, owns, List.append_nil, List.nil_append]; first | done | assumption)) ?_
  | refine ows (by first | assumption | exact owns_map_nil (fun _ => rfl) _ | exact owns_rows _) ?_
  | refine sz (by first | omega | (simp only [List.length_map, List.length_append, List.length_cons, List.length_nil, List.length_take, List.length_drop]; omega)) ?_
  | refine brT (by omega) ?_
  | refine brF (by omega) ?_)
local macro_rules | `(tactic| walk_at "go") => `(tactic| (try walk_at "w") <;> repeat (walk_at "d" <;> try walk_at "w"))

def dirS (f : Bool) : Str := if f then "forward" else "backward"
abbrev mvD (n : Nat) (m : Mv) : D := .tup [.int (m.s : Int), .str (dirS m.fwd), .int (m.stop n : Int), .int m.c]
def legsI (n : Nat) (m : Mv) (t : Nat) : List Int := (List.range t).map fun j => (m.leg n j : Int)
theorem legsI_succ (n : Nat) (m : Mv) (t : Nat) : legsI n m (t + 1) = legsI n m t ++ [(m.leg n t : Int)] := by
  unfold legsI; rw [List.range_succ, List.map_append]; rfl
theorem legsI_len (n : Nat) (m : Mv) (t : Nat) : (legsI n m t).length = t := by unfold legsI; rw [List.length_map, List.length_range]
def starts (fs : List Int) : List Nat := (List.range fs.length).filter fun k => decide (0 < nt (exc fs) k)
theorem starts_nil {fs : List Int} (d : Done fs) : starts fs = [] := by
  unfold starts
  rw [List.filter_eq_nil_iff]
  intro k hk
  have := d k (List.mem_range.mp hk)
  simp; omega
theorem starts_cons {fs : List Int} {m : Mv} (N : Nx fs m) : ∃ r, starts fs = m.s :: r := by
  unfold starts
  have h := N.lt
  obtain ⟨q, hq⟩ : ∃ q, fs.length = m.s + 1 + q := ⟨fs.length - (m.s + 1), by omega⟩
  have e1 : (List.range fs.length) = List.range m.s ++ (m.s :: (List.range q).map (m.s + 1 + ·)) := by
    rw [hq, List.range_add, List.range_succ, List.append_assoc]; rfl
  rw [e1, List.filter_append, (List.filter_eq_nil_iff (l := List.range m.s)).mpr fun k hk => by
    have := N.fst k (List.mem_range.mp hk)
    simp; omega]
  have := N.pos
  exact ⟨_, by rw [List.nil_append, List.filter_cons, if_pos (by simpa using this)]⟩
def sp_nm : DSp := fun ds Q _ => ∃ (fs : List Int) (q : Sq (fs.map .int)), ds = [q.d] ∧ fs.length < 1000 ∧ (Done fs → Q .non [q.d]) ∧ ∀ m, Nx fs m → Q (.tup [mvD fs.length m, .lst none ((legsI fs.length m m.d).map .int)]) [q.d]
theorem iF (n s t : Nat) : ((port n s true t : Int) + 1) % (n : Int) = (port n s true (t + 1) : Int) := by
  have := congrArg (Nat.cast (R := Int)) (portF_succ n s t)
  rw [Int.natCast_emod] at this
  exact this
theorem iB {n s t : Nat} (h : 0 < n) : ((port n s false t : Int) + -1) % (n : Int) = (port n s false (t + 1) : Int) := by
  have := congrArg (Nat.cast (R := Int)) (portB_succ n s t)
  rw [Int.natCast_emod, Int.natCast_add, show ((n - 1 : Nat) : Int) = -1 + n by omega, ← Int.add_assoc, Int.add_emod_right] at this
  exact this
theorem iB2 {n s t : Nat} (h : 0 < n) : ((port n s false t : Int) - 1) % (n : Int) = (port n s false (t + 1) : Int) := iB h
theorem word_nm : ∀ ds Qd Qx, sp_nm ds Qd Qx → w_next_move sp_exc (Ends' ds Qd Qx) (entry N_next_move ds) := by
  rintro ds Qd Qx ⟨fs, q, rfl, hl, h1, h2⟩
  have oq := owS q (owns_ints fs)
  unfold w_next_move
  walk_at "go"
  refine ⟨fs, q, rfl, hl, fun p => ?_⟩
  walk_at "go"
  refine lcRg (fun k => decide (0 < nt (exc fs) k)) (fun k => .int k) rfl ?_ ?_
  · intro k hk hx
    have hk : k < fs.length := by omega
    walk_at "go"
    rw [Int.zero_add]
    refine at_nt k rfl (by rw [exc_len]; exact hk) ?_
    walk_at "go"
    refine br (fun c => ?_) (fun c => ?_)
    · walk_at "go"
      exact lcYes hx (by rw [List.length_range]; omega) (decide_eq_true (by omega)) rfl rfl
    · exact lcNo hx (decide_eq_false (by omega)) rfl
  intro p2
  rw [show (List.range (fs.length : Int).toNat).filter (fun k => decide (0 < nt (exc fs) k)) = starts fs from rfl]
  walk_at "go"
--REST
  rcases nx_ex fs with dn | ⟨m, N⟩
  · rw [starts_nil dn]
    refine tru (k := false) rfl ?_
    walk_at "go"
    exact finV oq (fin0 (h1 dn))
  obtain ⟨r, er⟩ := starts_cons N
  have hs := N.lt
  have hd := N.meet.lt
  have hn : 0 < fs.length := by omega
  rw [er]
  refine tru (k := true) rfl ?_
  walk_at "go"
  refine at_nt m.s rfl hs ?_
  walk_at "go"
  refine br (fun c => ?_) (fun c => ?_)
  · have hf : m.fwd = true := by have := N.dir; rw [this]; exact decide_eq_true (by omega)
    have el : ∀ t, (m.leg fs.length t : Nat) = port fs.length m.s true t := fun t => by unfold Mv.leg Qk68.leg; rw [hf]; rfl
    walk_at "go"
    intro p3
    walk_at "go"
    refine whS (fun k ρ => ∃ t : Nat, k = m.d - t ∧ t ≤ m.d ∧ ρ = [some q.d, some (.int (fs.length : Int)), some (.lst (some p) ((exc fs).map .int)), some (.lst (some p2) ((m.s :: r).map fun k : Nat => D.int (k : Int))), none, some (.int (m.s : Int)), some (.int 1), some (.int (port fs.length m.s true t : Int)), some (.lst (some p3) ((legsI fs.length m t).map .int)), none]) ⟨_, 0, rfl, Nat.zero_le _, by rw [port_zero N.lt]; rfl⟩ ?_
    rintro k ρ2 ⟨t, rfl, ht, rfl⟩
    have pl : port fs.length m.s true t < fs.length := port_lt (by omega)
    have og := owns_ints (legsI fs.length m t)
    have ogl := legsI_len fs.length m t
    walk_at "go"
    refine at_nt _ rfl (by rw [exc_len]; exact pl) ?_
    walk_at "go"
    refine br (fun c => ?_) (fun c => ?_)
    · have lt : t < m.d := by
        by_cases z : t = m.d
        · have ng := N.meet.neg
          rw [hf, ← z] at ng; omega
        · omega
      walk_at "go"
      rw [iF]
      exact ⟨m.d - (t + 1), by omega, t + 1, rfl, lt, by rw [legsI_succ, List.map_append, el]; rfl⟩
    · have e : t = m.d := by
        by_cases z : t < m.d
        · have ng := N.meet.pos t z
          rw [hf] at ng; omega
        · omega
      subst e
      have h0 := N.meet.one
      have l0 : m.leg fs.length 0 < fs.length := leg_lt hn
      have e0 : nt (legsI fs.length m m.d) 0 = (m.leg fs.length 0 : Int) := nt_of (by
        unfold legsI
        rw [List.getElem?_map, List.getElem?_range (show 0 < m.d by omega)]; rfl)
      have ec := N.cnt
      have es : m.stop fs.length = port fs.length m.s true m.d := by unfold Mv.stop; rw [hf]
      walk_at "go"
      refine at_nt m.s rfl (by rw [exc_len]; exact hs) ?_
      walk_at "go"
      refine at_nt _ rfl (by rw [exc_len]; exact pl) ?_
      walk_at "go"
      refine at_nt 0 rfl (by omega) ?_
      rw [e0]
      walk_at "go"
      refine at_nt _ rfl l0 ?_
      walk_at "go"
      have hq := h2 m N
      rw [es] at ec
      unfold mvD at hq
      rw [es, hf, ec] at hq
      exact finV oq (fin0 hq)
  · have hf : m.fwd = false := by have := N.dir; rw [this]; exact decide_eq_false (by omega)
    have el : ∀ t, (m.leg fs.length t : Nat) = port fs.length m.s false (t + 1) := fun t => by unfold Mv.leg Qk68.leg; rw [hf]; rfl
    walk_at "go"
    intro p3
    walk_at "go"
    refine whS (fun k ρ => ∃ t : Nat, k = m.d - t ∧ t ≤ m.d ∧ ρ = [some q.d, some (.int (fs.length : Int)), some (.lst (some p) ((exc fs).map .int)), some (.lst (some p2) ((m.s :: r).map fun k : Nat => D.int (k : Int))), none, some (.int (m.s : Int)), some (.int (-1)), some (.int (port fs.length m.s false t : Int)), some (.lst (some p3) ((legsI fs.length m t).map .int)), none]) ⟨_, 0, rfl, Nat.zero_le _, by rw [port_zero N.lt]; rfl⟩ ?_
    rintro k ρ2 ⟨t, rfl, ht, rfl⟩
    have pl : port fs.length m.s false t < fs.length := port_lt (by omega)
    have og := owns_ints (legsI fs.length m t)
    have ogl := legsI_len fs.length m t
    walk_at "go"
    refine at_nt _ rfl (by rw [exc_len]; exact pl) ?_
    walk_at "go"
    refine br (fun c => ?_) (fun c => ?_)
    · have lt : t < m.d := by
        by_cases z : t = m.d
        · have ng := N.meet.neg
          rw [hf, ← z] at ng; omega
        · omega
      walk_at "go"
      rw [iB hn, iB2 hn]
      exact ⟨m.d - (t + 1), by omega, t + 1, rfl, lt, by rw [legsI_succ, List.map_append, el]; rfl⟩
    · have e : t = m.d := by
        by_cases z : t < m.d
        · have ng := N.meet.pos t z
          rw [hf] at ng; omega
        · omega
      subst e
      have h0 := N.meet.one
      have l0 : m.leg fs.length 0 < fs.length := leg_lt hn
      have e0 : nt (legsI fs.length m m.d) 0 = (m.leg fs.length 0 : Int) := nt_of (by
        unfold legsI
        rw [List.getElem?_map, List.getElem?_range (show 0 < m.d by omega)]; rfl)
      have ec := N.cnt
      have es : m.stop fs.length = port fs.length m.s false m.d := by unfold Mv.stop; rw [hf]
      walk_at "go"
      refine at_nt m.s rfl (by rw [exc_len]; exact hs) ?_
      walk_at "go"
      refine at_nt _ rfl (by rw [exc_len]; exact pl) ?_
      walk_at "go"
      refine at_nt 0 rfl (by omega) ?_
      rw [e0]
      walk_at "go"
      refine at_nt _ rfl l0 ?_
      walk_at "go"
      have hq := h2 m N
      rw [es] at ec
      unfold mvD at hq
      rw [es, hf, ec] at hq
      exact finV oq (fin0 hq)
end Qk68
set_option Elab.async false
set_option linter.all false
set_option maxRecDepth 100000
set_option maxHeartbeats 8000000
namespace Qk68
open PySem PySem.Spec PyProof.Rows L2 DL
local macro_rules | `(tactic| walk_at "w") => `(tactic| (refine evI ?_; simp only [entry, List.length_nil, List.length_cons, List.map_nil, List.map_cons, List.replicate_succ, List.replicate_zero, Nat.reduceSub, Nat.reduceAdd, List.cons_append, List.nil_append, List.length_map, ↓ev_ev, ↓ev_and, ↓ev_all, ↓ev_ifT, ↓ev_ifF, ↓ev_ifN, ↓ev_ow_int, ↓ev_ow_bl, ↓ev_ow_non, ↓ev_ow_str, ↓ev_ow_cv, ↓ev_ow_prD, ↓ev_ow_tup, ↓ev_ow_lst, ↓ev_ow_lsk, ↓ev_ows_nil, ↓ev_ows_cons, ↓ev_ows_app, ↓ev_ows_int, ↓ev_ows_prD, ↓ev_sz0, ↓ev_sz1, ↓ev_sz2, ↓ev_sz3, ↓ev_sz4, ↓ev_sz5, ↓ev_sz6, ↓ev_sz7, ↓ev_sz8, ↓ev_c, ↓ev_op, ↓ev_neg, ↓ev_negI, ↓ev_ix, ↓ev_ixT, ↓ev_ixL, ↓ev_ixK, ↓ev_ixP0, ↓ev_ixP1, ↓ev_at0, ↓ev_at1, ↓ev_at2, ↓ev_at3, ↓ev_at4, ↓ev_at5, ↓ev_at6, ↓ev_at7, ↓ev_len, ↓ev_lenT, ↓ev_lenL, ↓ev_lenK, ↓ev_rdI0, ↓ev_rdI, ↓ev_rdAdd, ↓ev_rdSub, ↓ev_rdLt, ↓ev_rdLe, ↓ev_rdGt, ↓ev_rdGe, ↓ev_rdMul, ↓ev_rdFdiv, ↓ev_rdMod, ↓ev_rdEqI, ↓ev_rdEqS, ↓ev_rdNeI, ↓ev_rdNeS, ↓ev_isN_int, ↓ev_notN_int, ↓ev_isN_bl, ↓ev_notN_bl, ↓ev_isN_str, ↓ev_notN_str, ↓ev_isN_tup, ↓ev_notN_tup, ↓ev_isN_lst, ↓ev_notN_lst, ↓ev_isN_lsk, ↓ev_notN_lsk, ↓ev_isN_non, ↓ev_notN_non, ↓ev_pure, ↓ev_keep, ↓ev_keep_lst, ↓ev_keep_tup, ↓ev_keep_int, ↓ev_keep_non, ↓ev_keep_bl, ↓ev_keep_str, ↓ev_keep_lsk, ↓ev_keepP, ↓ev_keepS, ↓ev_eop, ↓ev_tup, ↓ev_lst, ↓ev_vs_nil, ↓ev_vs_1, ↓ev_vs_2, ↓ev_vs_3, ↓ev_vs_4, ↓ev_vs_5, ↓ev_vs_6, ↓ev_vs_7, ↓ev_eif, ↓ev_eand, ↓ev_andQ, ↓ev_eor, ↓ev_orQ, ↓ev_enot, ↓ev_notQ, ↓ev_enotT, ↓ev_eneg, ↓ev_eix, ↓ev_ixDT, ↓ev_ixDL, ↓ev_ixDP0, ↓ev_ixDP1, ↓ev_elen, ↓ev_callB, ↓ev_rdInt, ↓ev_rdMax, ↓ev_rdMin, ↓ev_rdAbs, ↓ev_call, ↓ev_res_nil, ↓ev_res_val, ↓ev_give_nil, ↓ev_give_val, ↓ev_app, ↓ev_appQ, ↓ev_pop, ↓ev_listP, ↓ev_listE, ↓ev_tupP, ↓ev_tupE, ↓ev_seq_tup, ↓ev_seq_lst, ↓ev_seq_lsk, ↓ev_cat, ↓ev_catQ, ↓ev_catQ2, ↓ev_catT, ↓ev_catTQ, ↓ev_catTQ2, ↓ev_rep, ↓ev_repQ, ↓ev_repQ2, ↓ev_slc, ↓ev_slcT, ↓ev_slcL, ↓ev_slcE, ↓ev_slcET, ↓ev_slcEL, ↓ev_poN, ↓ev_poS, ↓ev_iq, ↓ev_lc, ↓ev_wp1, ↓ev_wp2, ↓ev_wp3, ↓ev_ixS, ↓ev_lenS, ↓ev_seqS, ↓ev_walkS, ↓ev_owS, ↓ev_stry, ↓ev_listRg, ↓ev_lrg, ↓ev_anil, ↓ev_aval, ↓ev_alend, ↓ev_lendA, ↓ev_astar, ↓ev_tpure, ↓ev_bq, ↓ev_topd, ↓ev_ttruP, ↓ev_ttru, ↓ev_truB, ↓ev_truN, ↓ev_truT0, ↓ev_truT1, ↓ev_truL0, ↓ev_truL1, ↓ev_tnot, ↓ev_tand, ↓ev_tor, ↓ev_tall, ↓ev_tch, ↓ev_chq, ↓ev_isq, ↓ev_walkT, ↓ev_walkL, ↓ev_walkK, ↓ev_itp, ↓ev_tpI, ↓ev_ils, ↓ev_lsI, ↓ev_lsK, ↓ev_irg1, ↓ev_rg1, ↓ev_irg2, ↓ev_rg2, ↓ev_ienum, ↓ev_enumL, ↓ev_enumK, ↓ev_ienumT, ↓ev_gnm, ↓ev_gtp, ↓ev_tpq1, ↓ev_tpq2, ↓ev_tpq3, ↓ev_tpq4, ↓ev_tpq5, ↓ev_tpq6, ↓ev_tpqP, ↓ev_gsnil, ↓ev_gscons, ↓ev_sseq, ↓ev_snext, ↓ev_sbrk, ↓ev_scnt, ↓ev_sdrop, ↓ev_sret, ↓ev_sretn, ↓ev_sif, ↓ev_sset, ↓ev_sasg, ↓ev_sfor, ↓ev_swhile, ↓ev_ssetix, ↓ev_setixq, ↓ev_sraise, ↓ev_lnq, ↓ev_lnq0, ↓ev_spar, ↓ev_parq, ↓ev_var0, ↓ev_set0, ↓ev_mov0, ↓ev_frz0, ↓ev_frzT0, ↓ev_lv0, ↓ev_app2_0, ↓ev_aug0, ↓ev_augq0, ↓ev_setixn0, ↓ev_popq0, ↓ev_lend0, ↓ev_giveL0, ↓ev_var1, ↓ev_set1, ↓ev_mov1, ↓ev_frz1, ↓ev_frzT1, ↓ev_lv1, ↓ev_app2_1, ↓ev_aug1, ↓ev_augq1, ↓ev_setixn1, ↓ev_popq1, ↓ev_lend1, ↓ev_giveL1, ↓ev_var2, ↓ev_set2, ↓ev_mov2, ↓ev_frz2, ↓ev_frzT2, ↓ev_lv2, ↓ev_app2_2, ↓ev_aug2, ↓ev_augq2, ↓ev_setixn2, ↓ev_popq2, ↓ev_lend2, ↓ev_giveL2, ↓ev_var3, ↓ev_set3, ↓ev_mov3, ↓ev_frz3, ↓ev_frzT3, ↓ev_lv3, ↓ev_app2_3, ↓ev_aug3, ↓ev_augq3, ↓ev_setixn3, ↓ev_popq3, ↓ev_lend3, ↓ev_giveL3, ↓ev_var4, ↓ev_set4, ↓ev_mov4, ↓ev_frz4, ↓ev_frzT4, ↓ev_lv4, ↓ev_app2_4, ↓ev_aug4, ↓ev_augq4, ↓ev_setixn4, ↓ev_popq4, ↓ev_lend4, ↓ev_giveL4, ↓ev_var5, ↓ev_set5, ↓ev_mov5, ↓ev_frz5, ↓ev_frzT5, ↓ev_lv5, ↓ev_app2_5, ↓ev_aug5, ↓ev_augq5, ↓ev_setixn5, ↓ev_popq5, ↓ev_lend5, ↓ev_giveL5, ↓ev_var6, ↓ev_set6, ↓ev_mov6, ↓ev_frz6, ↓ev_frzT6, ↓ev_lv6, ↓ev_app2_6, ↓ev_aug6, ↓ev_augq6, ↓ev_setixn6, ↓ev_popq6, ↓ev_lend6, ↓ev_giveL6, ↓ev_var7, ↓ev_set7, ↓ev_mov7, ↓ev_frz7, ↓ev_frzT7, ↓ev_lv7, ↓ev_app2_7, ↓ev_aug7, ↓ev_augq7, ↓ev_setixn7, ↓ev_popq7, ↓ev_lend7, ↓ev_giveL7, ↓ev_var8, ↓ev_set8, ↓ev_mov8, ↓ev_frz8, ↓ev_frzT8, ↓ev_lv8, ↓ev_app2_8, ↓ev_aug8, ↓ev_augq8, ↓ev_setixn8, ↓ev_popq8, ↓ev_lend8, ↓ev_giveL8, ↓ev_var9, ↓ev_set9, ↓ev_mov9, ↓ev_frz9, ↓ev_frzT9, ↓ev_lv9, ↓ev_app2_9, ↓ev_aug9, ↓ev_augq9, ↓ev_setixn9, ↓ev_popq9, ↓ev_lend9, ↓ev_giveL9, ↓ev_var10, ↓ev_set10, ↓ev_mov10, ↓ev_frz10, ↓ev_frzT10, ↓ev_lv10, ↓ev_app2_10, ↓ev_aug10, ↓ev_augq10, ↓ev_setixn10, ↓ev_popq10, ↓ev_lend10, ↓ev_giveL10, ↓ev_var11, ↓ev_set11, ↓ev_mov11, ↓ev_frz11, ↓ev_frzT11, ↓ev_lv11, ↓ev_app2_11, ↓ev_aug11, ↓ev_augq11, ↓ev_setixn11, ↓ev_popq11, ↓ev_lend11, ↓ev_giveL11, ↓ev_var12, ↓ev_set12, ↓ev_mov12, ↓ev_frz12, ↓ev_frzT12, ↓ev_lv12, ↓ev_app2_12, ↓ev_aug12, ↓ev_augq12, ↓ev_setixn12, ↓ev_popq12, ↓ev_lend12, ↓ev_giveL12, ↓ev_var13, ↓ev_set13, ↓ev_mov13, ↓ev_frz13, ↓ev_frzT13, ↓ev_lv13, ↓ev_app2_13, ↓ev_aug13, ↓ev_augq13, ↓ev_setixn13, ↓ev_popq13, ↓ev_lend13, ↓ev_giveL13, ↓ev_var14, ↓ev_set14, ↓ev_mov14, ↓ev_frz14, ↓ev_frzT14, ↓ev_lv14, ↓ev_app2_14, ↓ev_aug14, ↓ev_augq14, ↓ev_setixn14, ↓ev_popq14, ↓ev_lend14, ↓ev_giveL14, ↓ev_var15, ↓ev_set15, ↓ev_mov15, ↓ev_frz15, ↓ev_frzT15, ↓ev_lv15, ↓ev_app2_15, ↓ev_aug15, ↓ev_augq15, ↓ev_setixn15, ↓ev_popq15, ↓ev_lend15, ↓ev_giveL15, ↓ev_enS0, ↓ev_enT0, ↓ev_enL0, ↓ev_enS1, ↓ev_enT1, ↓ev_enL1, ↓ev_enS2, ↓ev_enT2, ↓ev_enL2, ↓ev_enS3, ↓ev_enT3, ↓ev_enL3, ↓ev_enS4, ↓ev_enT4, ↓ev_enL4, ↓ev_enS5, ↓ev_enT5, ↓ev_enL5, ↓ev_enS6, ↓ev_enT6, ↓ev_enL6, ↓ev_enS7, ↓ev_enT7, ↓ev_enL7, ↓ev_enS8, ↓ev_enT8, ↓ev_enL8, ↓ev_enS9, ↓ev_enT9, ↓ev_enL9, ↓ev_enS10, ↓ev_enT10, ↓ev_enL10, ↓ev_enS11, ↓ev_enT11, ↓ev_enL11, ↓ev_enS12, ↓ev_enT12, ↓ev_enL12, ↓ev_enS13, ↓ev_enT13, ↓ev_enL13, ↓ev_enS14, ↓ev_enT14, ↓ev_enL14, ↓ev_enS15, ↓ev_enT15, ↓ev_enL15, ↓ev_adq, ↓ev_rdAny, ↓ev_rdAll, ↓ev_rdSum, ↓ev_rdMaxL, ↓ev_rdMinL, ↓ev_ext, ↓ev_extQ, ↓ev_zip, ↓ev_zipT, ↓ev_zipL, ↓ev_pch, ↓ev_pchq, ↓ev_repP, ↓ev_repPQ, ↓ev_ext2_0, ↓ev_ext2_1, ↓ev_ext2_2, ↓ev_ext2_3, ↓ev_ext2_4, ↓ev_ext2_5, ↓ev_ext2_6, ↓ev_ext2_7, ↓ev_ext2_8, ↓ev_ext2_9, ↓ev_ext2_10, ↓ev_ext2_11, ↓ev_ext2_12, ↓ev_ext2_13, ↓ev_ext2_14, ↓ev_ext2_15, ↓ev_stryM, ↓ev_raise0, ↓ev_isB, ↓ev_notB, ↓ev_zip4, ↓ev_sumP, ↓ev_sumQ, ↓ev_sortI, ↓ev_sort2, ↓ev_augix, ↓ev_augixr0, ↓ev_augixr1, ↓ev_augixr2, ↓ev_augixr3, ↓ev_augixr4, ↓ev_augixr5, ↓ev_augixr6, ↓ev_augixr7, ↓ev_augixr8, ↓ev_augixr9, ↓ev_augixr10, ↓ev_augixr11, ↓ev_augixr12, ↓ev_augixr13, ↓ev_augixr14, ↓ev_augixr15, ↓ev_rdI3, ↓ev_setixe, ↓ev_setixeq, ev_fr1_lst, ev_fr1_tup, ev_fr1_int, ev_fr1_non, ev_fr1_bl, ev_fr1_str, ev_fr1_lsk, ev_fr1S, ev_addrP, ev_addrL]))
local macro_rules | `(tactic| walk_at "d") => `(tactic| first
  | refine And.intro (by first | assumption | omega | exact mul_smallL (by omega) (by omega) | exact mul_small (by omega) (by omega) | exact divw (by omega) (by omega) | exact rg_of (by omega) (by omega) | exact RgOk.of_le (by omega) (by omega) (by omega) (by omega) | exact lenok (by first | omega | (simp only [List.length_map, List.length_append, List.length_cons, List.length_nil, List.length_take, List.length_drop]; omega))) ?_
  | refine ow (by first | assumption | (simp only [own, owns, List.append_nil, List.nil_append]; first | done | assumption)) ?_
  | refine ows (by first | assumption | exact owns_map_nil (fun _ => rfl) _ | exact owns_rows _) ?_
  | refine sz (by first | omega | (simp only [List.length_map, List.length_append, List.length_cons, List.length_nil, List.length_take, List.length_drop]; omega)) ?_
  | refine brT (by omega) ?_
  | refine brF (by omega) ?_)
local macro_rules | `(tactic| walk_at "go") => `(tactic| (try walk_at "w") <;> repeat (walk_at "d" <;> try walk_at "w"))

def xF (C : Addr) : XD := ⟨.ref C, [], []⟩
def fnd (n : Nat) : List Mv → D
  | [] => .non
  | m :: _ => .tup [mvD n m, .lst none ((legsI n m m.d).map .int)]
theorem run_nil {fs : List Int} (r : Run fs []) : Done fs := by cases r; assumption
theorem run_cons {fs : List Int} {m : Mv} {ms : List Mv} (r : Run fs (m :: ms)) : Nx fs m ∧ Run (app fs m) ms := by cases r; exact ⟨by assumption, by assumption⟩
theorem own_fnd (n : Nat) (ms : List Mv) : own (fnd n ms) = [] := by
  cases ms with
  | nil => rfl
  | cons m ms =>
    show owns [mvD n m, .lst none ((legsI n m m.d).map .int)] = []
    show own (mvD n m) ++ (owns ((legsI n m m.d).map .int) ++ []) = []
    rw [owns_ints]; rfl
theorem flt_fnd {n : Nat} {ms : List Mv} {fs : List Int} (r : Run fs ms) (hl : fs.length = n) : Flt [n] (fnd n ms) := by
  cases r with
  | nil _ => exact True.intro
  | cons N _ =>
    have := N.meet.lt
    refine ⟨⟨True.intro, True.intro, True.intro, True.intro, True.intro⟩, ⟨?_, flts_ints _ _⟩, True.intro⟩
    rw [List.length_map, legsI_len, List.mem_singleton]; omega
/-- the next move of a list that is lent -/
theorem bor_nm {fs : List Int} {ms : List Mv} {a : Addr} {Qd : D → List D → Prop} {Qx : XD → List D → Prop} (r : Run fs ms) (hl : fs.length < 1000) (h : Qd (fnd fs.length ms) [.lst (some a) (fs.map .int)]) : bor sp_nm [.lst (some a) (fs.map .int)] Qd Qx := by
  refine bor_of ?_
  have e : frzs [.lst (some a) (fs.map .int)] = [ilD fs] := by show [D.lst none (frzs (fs.map .int))] = _; rw [frzs_ints]
  have eo : olns [.lst (some a) (fs.map .int)] = fs.length :: (olns (fs.map .int) ++ []) := by show ((fs.map D.int).length :: olns (fs.map D.int)) ++ [] = _; rw [List.length_map]; rfl
  have ez : olns (fs.map .int) = [] := by
    clear h r hl e eo
    induction fs with
    | nil => rfl
    | cons x l ih => exact ih
  rw [e, eo, ez]
  have fl := flt_fnd r rfl
  refine ⟨fs, ⟨_, .inr rfl⟩, rfl, hl, fun d => ?_, fun m N => ?_⟩
  · cases r with
    | nil _ => exact ⟨rfl, fl, h⟩
    | cons N _ => exact absurd N fun N => done_no d N
  · cases r with
    | nil d => exact absurd N fun N => done_no d N
    | cons N2 _ =>
      rename_i m2 ms2 _
      have em : m = m2 := nx_one N N2
      rw [em]
      exact ⟨rfl, fl, h⟩
theorem borN {n : Nat} {fs : List Int} {ms : List Mv} {a : Addr} {as : List DL.Arg} {ρ : DL.Env} {Q : D → DL.Env → Prop} {Qx : QX} (r : Run fs ms) (hl : fs.length < 1000) (en : fs.length = n) (h : Ev (giveA as [.lst (some a) (fs.map .int)] ρ fun ρ3 => Q (fnd n ms) ρ3)) : Ev (CK (bor sp_nm) Q Qx as [.lst (some a) (fs.map .int)] ρ) :=
  show bor sp_nm [.lst (some a) (fs.map .int)] (fun d ds' => giveA as ds' ρ fun ρ3 => Q d ρ3) (fun x ds' => giveA as ds' ρ fun ρ3 => Qx x ρ3) from bor_nm r hl (by rw [en]; exact h)
theorem seqS {l : List D} (q : Sq l) : seqD q.d = some l := by
  obtain ⟨d, h⟩ := q
  rcases h with rfl | rfl <;> rfl
theorem dir_dec (b : Bool) : decide (dirS b = Str.ofString "forward") = b := by cases b <;> decide +kernel
def sp_tm (CB CA : Addr) : DSp := fun ds Q Qx => ∃ (fs : List Int) (q : Sq (fs.map .int)), ds = [q.d] ∧ fs.length < 1000 ∧ ((¬ Ring fs.length ∧ Qx (xF CB) [q.d]) ∨ (Ring fs.length ∧ 0 ∉ fs ∧ Qx (xF CA) [q.d]) ∨ (Ring fs.length ∧ 0 ∈ fs ∧ ∃ ms, Run fs ms ∧ ms.length < 1000 ∧ Q (.tup (ms.map (mvD fs.length))) [q.d]))
theorem owns_mvs (n : Nat) (ms : List Mv) : owns (ms.map (mvD n)) = [] := owns_map_nil (fun _ => rfl) ms
theorem word_tm {CB CA : Addr} : ∀ ds Qd Qx, sp_tm CB CA ds Qd Qx → w_to_moves sp_ring sp_nm CB CA (Ends' ds Qd Qx) (entry N_to_moves ds) := by
  rintro ds Qd Qx ⟨fs, q, rfl, hl, h⟩
  have oq := owS q (owns_ints fs)
  unfold w_to_moves
  walk_at "go"
  refine ⟨_, q, rfl, owns_ints fs, fun z => ?_, fun z => ?_⟩
  · rw [List.length_map] at z
    walk_at "go"
    refine ninI (is := fs) (seqS q) ?_
    walk_at "go"
    refine brB (fun c => ?_) (fun c => ?_)
    · have c := of_decide_eq_true c
      obtain ⟨ms, R, hm, h⟩ : ∃ ms, Run fs ms ∧ ms.length < 1000 ∧ Qd (.tup (ms.map (mvD fs.length))) [q.d] := by
        rcases h with ⟨h, _⟩ | ⟨_, h, _⟩ | ⟨_, _, h⟩
        · exact absurd z h
        · exact absurd c h
        · exact h
      clear c
      walk_at "go"
      intro p p2
      refine borN R hl rfl ?_
      have of := own_fnd fs.length ms
      walk_at "go"
      refine whS (fun k ρ => ∃ (gs : List Int) (done rest : List Mv) (t4 t5 t6 : Option D), k = rest.length ∧ gs.length = fs.length ∧ Run gs rest ∧ ms = done ++ rest ∧ ρ = [some q.d, some (.lst (some p) (gs.map .int)), some (.lst (some p2) (done.map (mvD fs.length))), some (fnd fs.length rest), t4, t5, t6]) ⟨_, fs, [], ms, none, none, none, rfl, rfl, R, rfl, rfl⟩ ?_
      rintro k ρ2 ⟨gs, done, rest, t4, t5, t6, rfl, eg, R2, em, rfl⟩
      have ol := owns_mvs fs.length done
      have lm := congrArg List.length em
      rw [List.length_append] at lm
      cases rest with
      | nil =>
        unfold fnd
        walk_at "go"
        rw [List.append_nil] at em
        rw [em] at h
        exact finV oq (fin0 h)
      | cons m rest =>
        obtain ⟨N, R3⟩ := run_cons R2
        have hd := N.meet.lt
        rw [List.length_cons] at lm
        unfold fnd
        walk_at "go"
        have oI := owns_ints (legsI fs.length m m.d)
        have lI := legsI_len fs.length m m.d
        refine forMap (fun i ρ => ∃ t6, ρ = [some q.d, some (.lst (some p) ((tk gs m i).map .int)), some (.lst (some p2) ((done ++ [m]).map (mvD fs.length))), some (.tup [mvD fs.length m, .lst none ((legsI fs.length m m.d).map .int)]), some (mvD fs.length m), some (.lst none ((legsI fs.length m m.d).map .int)), t6]) ⟨_, by rw [List.map_append]; rfl⟩ ?_ ?_
        · rintro i x ρ2 hx ⟨t6, rfl⟩
          have hi := lt_of_get hx
          have ll : m.leg fs.length i < fs.length := leg_lt (by omega)
          have ex : x = (m.leg fs.length i : Int) := by
            unfold legsI at hx
            rw [List.getElem?_map, List.getElem?_range (by omega)] at hx
            exact (Option.some.inj hx).symm
          subst ex
          walk_at "go"
          refine augIx (u := nt (tk gs m i) (m.leg fs.length i)) (m.leg fs.length i) rfl (by omega) (by rw [List.getElem?_map, nt_get (by rw [tk_len]; omega)]; rfl) ?_
          walk_at "go"
          have et : tk gs m (i + 1) = (tk gs m i).set (m.leg fs.length i) (nt (tk gs m i) (m.leg fs.length i) - m.sg) := by rw [← eg]; rfl
          rw [dir_dec]
          refine brB (fun c => ?_) (fun c => ?_)
          · walk_at "go"
            exact ⟨_, by rw [et, List.map_set, show m.sg = m.c by unfold Mv.sg; rw [c]; rfl]⟩
          · walk_at "go"
            exact ⟨_, by rw [et, List.map_set, show m.sg = -m.c by unfold Mv.sg; rw [c]; rfl]⟩
        · rintro ρ2 ⟨t6, rfl⟩
          rw [lI]
          walk_at "go"
          refine borN (n := fs.length) R3 (by show (tk gs m m.d).length < 1000; rw [tk_len]; omega) (by show (tk gs m m.d).length = _; rw [tk_len]; omega) ?_
          have of2 := own_fnd fs.length rest
          walk_at "go"
          refine ⟨rest.length, by omega, app gs m, done ++ [m], rest, some (mvD fs.length m), some (.lst none ((legsI fs.length m m.d).map .int)), t6, rfl, by rw [app_len]; exact eg, R3, by rw [List.append_assoc]; exact em, ?_⟩
          cases rest <;> rfl
    walk_at "go"
    have c := of_decide_eq_false c
    rcases h with ⟨h, _⟩ | ⟨_, _, h⟩ | ⟨_, h, _⟩
    · exact absurd z h
    · exact finV oq (fin0 h)
    · exact absurd h c
  · rw [List.length_map] at z
    walk_at "go"
    rcases h with ⟨_, h⟩ | ⟨h, _⟩ | ⟨h, _⟩
    · exact finV oq (fin0 h)
    · exact absurd h z
    · exact absurd h z
end Qk68
set_option Elab.async false
set_option linter.all false
set_option maxRecDepth 100000
set_option maxHeartbeats 8000000
namespace Qk68
open PySem PySem.Spec PyProof.Rows L2 DL
local macro_rules | `(tactic| walk_at "w") => `(tactic| (refine evI ?_; simp only [entry, List.length_nil, List.length_cons, List.map_nil, List.map_cons, List.replicate_succ, List.replicate_zero, Nat.reduceSub, Nat.reduceAdd, List.cons_append, List.nil_append, List.length_map, ↓ev_ev, ↓ev_and, ↓ev_all, ↓ev_ifT, ↓ev_ifF, ↓ev_ifN, ↓ev_ow_int, ↓ev_ow_bl, ↓ev_ow_non, ↓ev_ow_str, ↓ev_ow_cv, ↓ev_ow_prD, ↓ev_ow_tup, ↓ev_ow_lst, ↓ev_ow_lsk, ↓ev_ows_nil, ↓ev_ows_cons, ↓ev_ows_app, ↓ev_ows_int, ↓ev_ows_prD, ↓ev_sz0, ↓ev_sz1, ↓ev_sz2, ↓ev_sz3, ↓ev_sz4, ↓ev_sz5, ↓ev_sz6, ↓ev_sz7, ↓ev_sz8, ↓ev_c, ↓ev_op, ↓ev_neg, ↓ev_negI, ↓ev_ix, ↓ev_ixT, ↓ev_ixL, ↓ev_ixK, ↓ev_ixP0, ↓ev_ixP1, ↓ev_at0, ↓ev_at1, ↓ev_at2, ↓ev_at3, ↓ev_at4, ↓ev_at5, ↓ev_at6, ↓ev_at7, ↓ev_len, ↓ev_lenT, ↓ev_lenL, ↓ev_lenK, ↓ev_rdI0, ↓ev_rdI, ↓ev_rdAdd, ↓ev_rdSub, ↓ev_rdLt, ↓ev_rdLe, ↓ev_rdGt, ↓ev_rdGe, ↓ev_rdMul, ↓ev_rdFdiv, ↓ev_rdMod, ↓ev_rdEqI, ↓ev_rdEqS, ↓ev_rdNeI, ↓ev_rdNeS, ↓ev_isN_int, ↓ev_notN_int, ↓ev_isN_bl, ↓ev_notN_bl, ↓ev_isN_str, ↓ev_notN_str, ↓ev_isN_tup, ↓ev_notN_tup, ↓ev_isN_lst, ↓ev_notN_lst, ↓ev_isN_lsk, ↓ev_notN_lsk, ↓ev_isN_non, ↓ev_notN_non, ↓ev_pure, ↓ev_keep, ↓ev_keep_lst, ↓ev_keep_tup, ↓ev_keep_int, ↓ev_keep_non, ↓ev_keep_bl, ↓ev_keep_str, ↓ev_keep_lsk, ↓ev_keepP, ↓ev_keepS, ↓ev_eop, ↓ev_tup, ↓ev_lst, ↓ev_vs_nil, ↓ev_vs_1, ↓ev_vs_2, ↓ev_vs_3, ↓ev_vs_4, ↓ev_vs_5, ↓ev_vs_6, ↓ev_vs_7, ↓ev_eif, ↓ev_eand, ↓ev_andQ, ↓ev_eor, ↓ev_orQ, ↓ev_enot, ↓ev_notQ, ↓ev_enotT, ↓ev_eneg, ↓ev_eix, ↓ev_ixDT, ↓ev_ixDL, ↓ev_ixDP0, ↓ev_ixDP1, ↓ev_elen, ↓ev_callB, ↓ev_rdInt, ↓ev_rdMax, ↓ev_rdMin, ↓ev_rdAbs, ↓ev_call, ↓ev_res_nil, ↓ev_res_val, ↓ev_give_nil, ↓ev_give_val, ↓ev_app, ↓ev_appQ, ↓ev_pop, ↓ev_listP, ↓ev_listE, ↓ev_tupP, ↓ev_tupE, ↓ev_seq_tup, ↓ev_seq_lst, ↓ev_seq_lsk, ↓ev_cat, ↓ev_catQ, ↓ev_catQ2, ↓ev_catT, ↓ev_catTQ, ↓ev_catTQ2, ↓ev_rep, ↓ev_repQ, ↓ev_repQ2, ↓ev_slc, ↓ev_slcT, ↓ev_slcL, ↓ev_slcE, ↓ev_slcET, ↓ev_slcEL, ↓ev_poN, ↓ev_poS, ↓ev_iq, ↓ev_lc, ↓ev_wp1, ↓ev_wp2, ↓ev_wp3, ↓ev_ixS, ↓ev_lenS, ↓ev_seqS, ↓ev_walkS, ↓ev_owS, ↓ev_stry, ↓ev_listRg, ↓ev_lrg, ↓ev_anil, ↓ev_aval, ↓ev_alend, ↓ev_lendA, ↓ev_astar, ↓ev_tpure, ↓ev_bq, ↓ev_topd, ↓ev_ttruP, ↓ev_ttru, ↓ev_truB, ↓ev_truN, ↓ev_truT0, ↓ev_truT1, ↓ev_truL0, ↓ev_truL1, ↓ev_tnot, ↓ev_tand, ↓ev_tor, ↓ev_tall, ↓ev_tch, ↓ev_chq, ↓ev_isq, ↓ev_walkT, ↓ev_walkL, ↓ev_walkK, ↓ev_itp, ↓ev_tpI, ↓ev_ils, ↓ev_lsI, ↓ev_lsK, ↓ev_irg1, ↓ev_rg1, ↓ev_irg2, ↓ev_rg2, ↓ev_ienum, ↓ev_enumL, ↓ev_enumK, ↓ev_ienumT, ↓ev_gnm, ↓ev_gtp, ↓ev_tpq1, ↓ev_tpq2, ↓ev_tpq3, ↓ev_tpq4, ↓ev_tpq5, ↓ev_tpq6, ↓ev_tpqP, ↓ev_gsnil, ↓ev_gscons, ↓ev_sseq, ↓ev_snext, ↓ev_sbrk, ↓ev_scnt, ↓ev_sdrop, ↓ev_sret, ↓ev_sretn, ↓ev_sif, ↓ev_sset, ↓ev_sasg, ↓ev_sfor, ↓ev_swhile, ↓ev_ssetix, ↓ev_setixq, ↓ev_sraise, ↓ev_lnq, ↓ev_lnq0, ↓ev_spar, ↓ev_parq, ↓ev_var0, ↓ev_set0, ↓ev_mov0, ↓ev_frz0, ↓ev_frzT0, ↓ev_lv0, ↓ev_app2_0, ↓ev_aug0, ↓ev_augq0, ↓ev_setixn0, ↓ev_popq0, ↓ev_lend0, ↓ev_giveL0, ↓ev_var1, ↓ev_set1, ↓ev_mov1, ↓ev_frz1, ↓ev_frzT1, ↓ev_lv1, ↓ev_app2_1, ↓ev_aug1, ↓ev_augq1, ↓ev_setixn1, ↓ev_popq1, ↓ev_lend1, ↓ev_giveL1, ↓ev_var2, ↓ev_set2, ↓ev_mov2, ↓ev_frz2, ↓ev_frzT2, ↓ev_lv2, ↓ev_app2_2, ↓ev_aug2, ↓ev_augq2, ↓ev_setixn2, ↓ev_popq2, ↓ev_lend2, ↓ev_giveL2, ↓ev_var3, ↓ev_set3, ↓ev_mov3, ↓ev_frz3, ↓ev_frzT3, ↓ev_lv3, ↓ev_app2_3, ↓ev_aug3, ↓ev_augq3, ↓ev_setixn3, ↓ev_popq3, ↓ev_lend3, ↓ev_giveL3, ↓ev_var4, ↓ev_set4, ↓ev_mov4, ↓ev_frz4, ↓ev_frzT4, ↓ev_lv4, ↓ev_app2_4, ↓ev_aug4, ↓ev_augq4, ↓ev_setixn4, ↓ev_popq4, ↓ev_lend4, ↓ev_giveL4, ↓ev_var5, ↓ev_set5, ↓ev_mov5, ↓ev_frz5, ↓ev_frzT5, ↓ev_lv5, ↓ev_app2_5, ↓ev_aug5, ↓ev_augq5, ↓ev_setixn5, ↓ev_popq5, ↓ev_lend5, ↓ev_giveL5, ↓ev_var6, ↓ev_set6, ↓ev_mov6, ↓ev_frz6, ↓ev_frzT6, ↓ev_lv6, ↓ev_app2_6, ↓ev_aug6, ↓ev_augq6, ↓ev_setixn6, ↓ev_popq6, ↓ev_lend6, ↓ev_giveL6, ↓ev_var7, ↓ev_set7, ↓ev_mov7, ↓ev_frz7, ↓ev_frzT7, ↓ev_lv7, ↓ev_app2_7, ↓ev_aug7, ↓ev_augq7, ↓ev_setixn7, ↓ev_popq7, ↓ev_lend7, ↓ev_giveL7, ↓ev_var8, ↓ev_set8, ↓ev_mov8, ↓ev_frz8, ↓ev_frzT8, ↓ev_lv8, ↓ev_app2_8, ↓ev_aug8, ↓ev_augq8, ↓ev_setixn8, ↓ev_popq8, ↓ev_lend8, ↓ev_giveL8, ↓ev_var9, ↓ev_set9, ↓ev_mov9, ↓ev_frz9, ↓ev_frzT9, ↓ev_lv9, ↓ev_app2_9, ↓ev_aug9, ↓ev_augq9, ↓ev_setixn9, ↓ev_popq9, ↓ev_lend9, ↓ev_giveL9, ↓ev_var10, ↓ev_set10, ↓ev_mov10, ↓ev_frz10, ↓ev_frzT10, ↓ev_lv10, ↓ev_app2_10, ↓ev_aug10, ↓ev_augq10, ↓ev_setixn10, ↓ev_popq10, ↓ev_lend10, ↓ev_giveL10, ↓ev_var11, ↓ev_set11, ↓ev_mov11, ↓ev_frz11, ↓ev_frzT11, ↓ev_lv11, ↓ev_app2_11, ↓ev_aug11, ↓ev_augq11, ↓ev_setixn11, ↓ev_popq11, ↓ev_lend11, ↓ev_giveL11, ↓ev_var12, ↓ev_set12, ↓ev_mov12, ↓ev_frz12, ↓ev_frzT12, ↓ev_lv12, ↓ev_app2_12, ↓ev_aug12, ↓ev_augq12, ↓ev_setixn12, ↓ev_popq12, ↓ev_lend12, ↓ev_giveL12, ↓ev_var13, ↓ev_set13, ↓ev_mov13, ↓ev_frz13, ↓ev_frzT13, ↓ev_lv13, ↓ev_app2_13, ↓ev_aug13, ↓ev_augq13, ↓ev_setixn13, ↓ev_popq13, ↓ev_lend13, ↓ev_giveL13, ↓ev_var14, ↓ev_set14, ↓ev_mov14, ↓ev_frz14, ↓ev_frzT14, ↓ev_lv14, ↓ev_app2_14, ↓ev_aug14, ↓ev_augq14, ↓ev_setixn14, ↓ev_popq14, ↓ev_lend14, ↓ev_giveL14, ↓ev_var15, ↓ev_set15, ↓ev_mov15, ↓ev_frz15, ↓ev_frzT15, ↓ev_lv15, ↓ev_app2_15, ↓ev_aug15, ↓ev_augq15, ↓ev_setixn15, ↓ev_popq15, ↓ev_lend15, ↓ev_giveL15, ↓ev_enS0, ↓ev_enT0, ↓ev_enL0, ↓ev_enS1, ↓ev_enT1, ↓ev_enL1, ↓ev_enS2, ↓ev_enT2, ↓ev_enL2, ↓ev_enS3, ↓ev_enT3, ↓ev_enL3, ↓ev_enS4, ↓ev_enT4, ↓ev_enL4, ↓ev_enS5, ↓ev_enT5, ↓ev_enL5, ↓ev_enS6, ↓ev_enT6, ↓ev_enL6, ↓ev_enS7, ↓ev_enT7, ↓ev_enL7, ↓ev_enS8, ↓ev_enT8, ↓ev_enL8, ↓ev_enS9, ↓ev_enT9, ↓ev_enL9, ↓ev_enS10, ↓ev_enT10, ↓ev_enL10, ↓ev_enS11, ↓ev_enT11, ↓ev_enL11, ↓ev_enS12, ↓ev_enT12, ↓ev_enL12, ↓ev_enS13, ↓ev_enT13, ↓ev_enL13, ↓ev_enS14, ↓ev_enT14, ↓ev_enL14, ↓ev_enS15, ↓ev_enT15, ↓ev_enL15, ↓ev_adq, ↓ev_rdAny, ↓ev_rdAll, ↓ev_rdSum, ↓ev_rdMaxL, ↓ev_rdMinL, ↓ev_ext, ↓ev_extQ, ↓ev_zip, ↓ev_zipT, ↓ev_zipL, ↓ev_pch, ↓ev_pchq, ↓ev_repP, ↓ev_repPQ, ↓ev_ext2_0, ↓ev_ext2_1, ↓ev_ext2_2, ↓ev_ext2_3, ↓ev_ext2_4, ↓ev_ext2_5, ↓ev_ext2_6, ↓ev_ext2_7, ↓ev_ext2_8, ↓ev_ext2_9, ↓ev_ext2_10, ↓ev_ext2_11, ↓ev_ext2_12, ↓ev_ext2_13, ↓ev_ext2_14, ↓ev_ext2_15, ↓ev_stryM, ↓ev_raise0, ↓ev_isB, ↓ev_notB, ↓ev_zip4, ↓ev_sumP, ↓ev_sumQ, ↓ev_sortI, ↓ev_sort2, ↓ev_augix, ↓ev_augixr0, ↓ev_augixr1, ↓ev_augixr2, ↓ev_augixr3, ↓ev_augixr4, ↓ev_augixr5, ↓ev_augixr6, ↓ev_augixr7, ↓ev_augixr8, ↓ev_augixr9, ↓ev_augixr10, ↓ev_augixr11, ↓ev_augixr12, ↓ev_augixr13, ↓ev_augixr14, ↓ev_augixr15, ↓ev_rdI3, ↓ev_setixe, ↓ev_setixeq, ev_fr1_lst, ev_fr1_tup, ev_fr1_int, ev_fr1_non, ev_fr1_bl, ev_fr1_str, ev_fr1_lsk, ev_fr1S, ev_addrP, ev_addrL]))
local macro_rules | `(tactic| walk_at "d") => `(tactic| first
  | refine And.intro (by first | assumption | omega | exact mul_smallL (by omega) (by omega) | exact mul_small (by omega) (by omega) | exact divw (by omega) (by omega) | exact rg_of (by omega) (by omega) | exact RgOk.of_le (by omega) (by omega) (by omega) (by omega) | exact lenok (by first | omega | (simp only [List.length_map, List.length_append, List.length_cons, List.length_nil, List.length_take, List.length_drop]; omega))) ?_
  | refine ow (by first | assumption | (simp only [own, owns, List.append_nil, List.nil_append]; first | done | assumption)) ?_
  | refine ows (by first | assumption | exact owns_map_nil (fun _ => rfl) _ | exact owns_rows _) ?_
  | refine sz (by first | omega | (simp only [List.length_map, List.length_append, List.length_cons, List.length_nil, List.length_take, List.length_drop]; omega)) ?_
  | refine brT (by omega) ?_
  | refine brF (by omega) ?_)
local macro_rules | `(tactic| walk_at "go") => `(tactic| (try walk_at "w") <;> repeat (walk_at "d" <;> try walk_at "w"))

theorem olns_ints : ∀ l : List Int, olns (l.map .int) = []
  | [] => rfl
  | _ :: l => olns_ints l
theorem borE {fs : List Int} {a : Addr} {as : List DL.Arg} {ρ : DL.Env} {Q : D → DL.Env → Prop} {Qx : QX} (hl : fs.length < 1000) (h : ∀ p, Ev (giveA as [.lst (some a) (fs.map .int)] ρ fun ρ3 => Q (.lst (some p) ((exc fs).map .int)) ρ3)) : Ev (CK (bor sp_exc) Q Qx as [.lst (some a) (fs.map .int)] ρ) := by
  show bor sp_exc [.lst (some a) (fs.map .int)] (fun d ds' => giveA as ds' ρ fun ρ3 => Q d ρ3) (fun x ds' => giveA as ds' ρ fun ρ3 => Qx x ρ3)
  refine bor_of ?_
  have e : frzs [.lst (some a) (fs.map .int)] = [ilD fs] := by show [D.lst none (frzs (fs.map .int))] = _; rw [frzs_ints]
  rw [e]
  exact ⟨fs, ⟨_, .inr rfl⟩, rfl, hl, fun p => ⟨rfl, flts_ints _ _, h p⟩⟩
theorem ixN_nat {n k : Nat} (h : k < n) : ixN n (k : Int) = some k := by unfold ixN; rw [if_pos (by omega), if_pos (by omega)]; rfl
theorem mvD_eq {n : Nat} {m : Mv} {b : Bool} (es : m.stop n = port n m.s b m.d) (hf : m.fwd = b) : mvD n m = .tup [.int (m.s : Int), .str (dirS b), .int (port n m.s b m.d : Int), .int m.c] := by unfold mvD; rw [es, hf]
theorem iB3 {n s t : Nat} (h : 0 < n) : ((port n s false t : Int) + ((n : Int) - 1)) % (n : Int) = (port n s false (t + 1) : Int) := by
  have := congrArg (Nat.cast (R := Int)) (portB_succ n s t)
  rw [Int.natCast_emod, Int.natCast_add, show ((n - 1 : Nat) : Int) = (n : Int) - 1 by omega] at this
  exact this
theorem emod_of (a b : Int) : a - a / b * b = a % b := by rw [Int.emod_def, Int.mul_comm]
def sp_due : DSp := fun ds Q _ => ∃ (fs : List Int) (q : Sq (fs.map .int)) (ms : List Mv), ds = [q.d] ∧ fs.length < 1000 ∧ Run fs ms ∧ ms.length < 2 * fs.length ∧ Q (.tup (ms.map (mvD fs.length))) [q.d]
theorem word_due : ∀ ds Qd Qx, sp_due ds Qd Qx → w_law_due sp_exc (Ends' ds Qd Qx) (entry N_law_due ds) := by
  rintro ds Qd Qx ⟨fs, q, ms, rfl, hl, R, hm, h⟩
  have oq := owS q (owns_ints fs)
  unfold w_law_due
  walk_at "go"
  intro p p2
  obtain ⟨N2, eN2⟩ : ∃ n, n = (2 * (fs.length : Int)).toNat := ⟨_, rfl⟩
  walk_at "go"
  refine forRg (fun i ρ => ∃ (gs : List Int) (done rest : List Mv) (t4 t5 t6 t7 t8 t9 t10 t11 t12 t13 t14 t15 : Option D), done.length = i ∧ gs.length = fs.length ∧ Run gs rest ∧ ms = done ++ rest ∧ ρ = [some q.d, some (.int (fs.length : Int)), some (.lst (some p) (gs.map .int)), some (.lst (some p2) (done.map (mvD fs.length))), t4, t5, t6, t7, t8, t9, t10, t11, t12, t13, t14, t15]) ⟨fs, [], ms, none, none, none, none, none, none, none, none, none, none, none, none, rfl, rfl, R, rfl, rfl⟩ ?_ ?_
  · rintro i ρ2 hi ⟨gs, done, rest, t4, t5, t6, t7, t8, t9, t10, t11, t12, t13, t14, t15, di, eg, R2, em, rfl⟩
    have ol := owns_mvs fs.length done
    have lm := congrArg List.length em
    rw [List.length_append] at lm
    walk_at "go"
    refine borE (by omega) fun p3 => ?_
    have lx := exc_len gs
    walk_at "go"
    refine lcRgW (fun k => decide (0 < nt (exc gs) k)) (fun k => .int k) ?_ ?_
    · intro k hk hx
      have hk : k < fs.length := by omega
      dsimp only [wipeE, List.set]
      walk_at "go"
      rw [Int.zero_add]
      refine at_nt k rfl (by omega) ?_
      walk_at "go"
      refine br (fun c => ?_) (fun c => ?_)
      · walk_at "go"
        exact lcYes hx (by rw [List.length_range]; omega) (decide_eq_true (by omega)) rfl rfl
      · exact lcNo hx (decide_eq_false (by omega)) rfl
    rintro p4 ρ3 hr
    obtain ⟨t7', rfl⟩ : ∃ t7', ρ3 = [some q.d, some (.int (fs.length : Int)), some (.lst (some p) (gs.map .int)), some (.lst (some p2) (done.map (mvD fs.length))), some (.int (0 + (i : Int))), some (.lst (some p3) ((exc gs).map .int)), t6, t7', t8, t9, t10, t11, t12, t13, t14, t15] := by
      rcases hr with rfl | rfl
      · exact ⟨_, rfl⟩
      · exact ⟨_, rfl⟩
    clear hr
    rw [show (List.range (fs.length : Int).toNat).filter (fun k => decide (0 < nt (exc gs) k)) = starts gs by unfold starts; rw [eg]; rfl]
    walk_at "go"
    cases rest with
    | nil =>
      rw [starts_nil (run_nil R2)]
      refine tru (k := false) rfl ?_
      walk_at "go"
      rw [List.append_nil] at em
      rw [em] at h
      exact finV oq (fin0 h)
    | cons m rest =>
    obtain ⟨N, R3⟩ := run_cons R2
    have hs := N.lt
    have hd := N.meet.lt
    have h1d := N.meet.one
    have hn : 0 < fs.length := by omega
    rw [List.length_cons] at lm
    obtain ⟨r, er⟩ := starts_cons N
    rw [er]
    refine tru (k := true) rfl ?_
    walk_at "go"
    refine at_nt m.s rfl hs ?_
    walk_at "go"
    rw [eg] at hs hd
    refine br (fun c => ?_) (fun c => ?_)
    · have hf : m.fwd = true := by have := N.dir; rw [this]; exact decide_eq_true (by omega)
      have el : ∀ t, (m.leg fs.length t : Nat) = port fs.length m.s true t := fun t => by unfold Mv.leg Qk68.leg; rw [hf]; rfl
      have es : m.stop fs.length = port fs.length m.s true m.d := by unfold Mv.stop; rw [hf]
      walk_at "go"
      intro p5
      walk_at "go"
      refine forRg (fun t ρ => ∃ t7 t12, t < m.d ∧ ρ = [some q.d, some (.int (fs.length : Int)), some (.lst (some p) (gs.map .int)), some (.lst (some p2) (done.map (mvD fs.length))), some (.int (0 + (i : Int))), some (.lst (some p3) ((exc gs).map .int)), some (.lst (some p4) ((m.s :: r).map fun k : Nat => D.int (k : Int))), t7, some (.int (m.s : Int)), some (.int 1), some (.lst (some p5) ((legsI fs.length m t).map .int)), some (.int (port fs.length m.s true t : Int)), t12, t13, t14, t15]) ⟨_, _, N.meet.one, by rw [port_zero hs]; rfl⟩ ?_ ?_
      · rintro t ρ2 ht ⟨t7, t12, td, rfl⟩
        have pl : port fs.length m.s true (t + 1) < fs.length := port_lt (by omega)
        have ogl := legsI_len fs.length m t
        walk_at "go"
        refine brT trivial ?_
        walk_at "go"
        refine at_nt m.s rfl (by omega) ?_
        walk_at "go"
        rw [emod_of, iF]
        walk_at "go"
        have eL : (legsI fs.length m t).map D.int ++ [.int ((port fs.length m.s true t : Nat) : Int)] = (legsI fs.length m (t + 1)).map .int := by rw [legsI_succ, List.map_append, el]; rfl
        rw [eL]
        refine at_nt _ rfl (by omega) ?_
        walk_at "go"
        refine br (fun c3 => ?_) (fun c3 => ?_)
        · have ed : t + 1 = m.d := by
            by_cases z : t + 1 < m.d
            · have ng := N.meet.pos (t + 1) z
              rw [hf, eg] at ng; omega
            · omega
          rw [ed] at pl ⊢
          have e0 : nt (legsI fs.length m m.d) 0 = (m.leg fs.length 0 : Int) := nt_of (by
            unfold legsI
            rw [List.getElem?_map, List.getElem?_range (show 0 < m.d by omega)]; rfl)
          have ec := N.cnt
          have l0 : m.leg fs.length 0 < fs.length := leg_lt hn
          have og := owns_ints (legsI fs.length m m.d)
          have ogl2 := legsI_len fs.length m m.d
          rw [eg, es] at ec
          walk_at "go"
          refine at_nt m.s rfl (by omega) ?_
          walk_at "go"
          refine at_nt _ rfl (by omega) ?_
          walk_at "go"
          refine at_nt 0 rfl (by omega) ?_
          rw [e0]
          walk_at "go"
          refine at_nt _ rfl (by omega) ?_
          walk_at "go"
          refine at_nt m.s rfl (by omega) ?_
          walk_at "go"
          rw [← ec]
          refine forMap (fun j ρ => ∃ t15, ρ = [some q.d, some (.int (fs.length : Int)), some (.lst (some p) ((tk gs m j).map .int)), some (.lst (some p2) (done.map (mvD fs.length))), some (.int (0 + (i : Int))), some (.lst (some p3) ((exc gs).map .int)), some (.lst (some p4) ((m.s :: r).map fun k : Nat => D.int (k : Int))), some (.int (0 + (t : Int))), some (.int (m.s : Int)), some (.int 1), some (.lst none ((legsI fs.length m m.d).map .int)), some (.int (port fs.length m.s true m.d : Int)), some (.int (port fs.length m.s true m.d : Int)), some (.int m.c), some (.str (dirS true)), t15]) ⟨_, rfl⟩ ?_ ?_
          · rintro j x ρ2 hx ⟨t15, rfl⟩
            have hj := lt_of_get hx
            have ll : m.leg fs.length j < fs.length := leg_lt (by omega)
            have lt := tk_len gs m j
            have ex : x = (m.leg fs.length j : Int) := by
              unfold legsI at hx
              rw [List.getElem?_map, List.getElem?_range (by omega)] at hx
              exact (Option.some.inj hx).symm
            subst ex
            have et : tk gs m (j + 1) = (tk gs m j).set (m.leg fs.length j) (nt (tk gs m j) (m.leg fs.length j) - m.sg) := by rw [← eg]; rfl
            walk_at "go"
            refine at_nt _ rfl (by omega) ?_
            walk_at "go"
            rw [ixN_nat (by omega)]
            walk_at "go"
            exact ⟨_, by rw [et, List.map_set, show m.sg = m.c by unfold Mv.sg; rw [hf]; rfl, Int.sub_eq_add_neg]⟩
          · rintro ρ2 ⟨t15, rfl⟩
            rw [ogl2]
            walk_at "go"
            refine ⟨app gs m, done ++ [m], rest, _, _, _, _, _, _, _, _, _, _, _, _, by rw [List.length_append, List.length_singleton]; omega, by rw [app_len]; exact eg, R3, by rw [List.append_assoc]; exact em, by rw [List.map_append, ← mvD_eq es hf]; rfl⟩
        · have ed : t + 1 < m.d := by
            by_cases z : t + 1 = m.d
            · have ng := N.meet.neg
              rw [hf, eg, ← z] at ng; omega
            · omega
          walk_at "go"
          exact ⟨_, _, ed, rfl⟩
      · rintro ρ2 ⟨t7, t12, td, rfl⟩
        omega
    · have hf : m.fwd = false := by have := N.dir; rw [this]; exact decide_eq_false (by omega)
      have el : ∀ t, (m.leg fs.length t : Nat) = port fs.length m.s false (t + 1) := fun t => by unfold Mv.leg Qk68.leg; rw [hf]; rfl
      have es : m.stop fs.length = port fs.length m.s false m.d := by unfold Mv.stop; rw [hf]
      walk_at "go"
      intro p5
      walk_at "go"
      refine forRg (fun t ρ => ∃ t7 t12, t < m.d ∧ ρ = [some q.d, some (.int (fs.length : Int)), some (.lst (some p) (gs.map .int)), some (.lst (some p2) (done.map (mvD fs.length))), some (.int (0 + (i : Int))), some (.lst (some p3) ((exc gs).map .int)), some (.lst (some p4) ((m.s :: r).map fun k : Nat => D.int (k : Int))), t7, some (.int (m.s : Int)), some (.int ((fs.length : Int) - 1)), some (.lst (some p5) ((legsI fs.length m t).map .int)), some (.int (port fs.length m.s false t : Int)), t12, t13, t14, t15]) ⟨_, _, N.meet.one, by rw [port_zero hs]; rfl⟩ ?_ ?_
      · rintro t ρ2 ht ⟨t7, t12, td, rfl⟩
        have pl : port fs.length m.s false (t + 1) < fs.length := port_lt (by omega)
        have ogl := legsI_len fs.length m t
        walk_at "go"
        refine br (fun c2 => ?_) (fun c2 => ?_)
        all_goals
          walk_at "go"
          try refine at_nt m.s rfl (by omega) ?_
          try walk_at "go"
          rw [emod_of, iB3 hn]
          walk_at "go"
          have eL : (legsI fs.length m t).map D.int ++ [.int ((port fs.length m.s false (t + 1) : Nat) : Int)] = (legsI fs.length m (t + 1)).map .int := by rw [legsI_succ, List.map_append, el]; rfl
          rw [eL]
          refine at_nt _ rfl (by omega) ?_
          walk_at "go"
          refine br (fun c3 => ?_) (fun c3 => ?_)
          · have ed : t + 1 = m.d := by
              by_cases z : t + 1 < m.d
              · have ng := N.meet.pos (t + 1) z
                rw [hf, eg] at ng; omega
              · omega
            rw [ed] at pl ⊢
            have e0 : nt (legsI fs.length m m.d) 0 = (m.leg fs.length 0 : Int) := nt_of (by
              unfold legsI
              rw [List.getElem?_map, List.getElem?_range (show 0 < m.d by omega)]; rfl)
            have ec := N.cnt
            have l0 : m.leg fs.length 0 < fs.length := leg_lt hn
            have og := owns_ints (legsI fs.length m m.d)
            have ogl2 := legsI_len fs.length m m.d
            rw [eg, es] at ec
            walk_at "go"
            refine at_nt m.s rfl (by omega) ?_
            walk_at "go"
            refine at_nt _ rfl (by omega) ?_
            walk_at "go"
            refine at_nt 0 rfl (by omega) ?_
            rw [e0]
            walk_at "go"
            refine at_nt _ rfl (by omega) ?_
            walk_at "go"
            refine at_nt m.s rfl (by omega) ?_
            walk_at "go"
            rw [← ec]
            refine forMap (fun j ρ => ∃ t15, ρ = [some q.d, some (.int (fs.length : Int)), some (.lst (some p) ((tk gs m j).map .int)), some (.lst (some p2) (done.map (mvD fs.length))), some (.int (0 + (i : Int))), some (.lst (some p3) ((exc gs).map .int)), some (.lst (some p4) ((m.s :: r).map fun k : Nat => D.int (k : Int))), some (.int (0 + (t : Int))), some (.int (m.s : Int)), some (.int ((fs.length : Int) - 1)), some (.lst none ((legsI fs.length m m.d).map .int)), some (.int (port fs.length m.s false m.d : Int)), some (.int (port fs.length m.s false m.d : Int)), some (.int m.c), some (.str (dirS false)), t15]) ⟨_, rfl⟩ ?_ ?_
            · rintro j x ρ2 hx ⟨t15, rfl⟩
              have hj := lt_of_get hx
              have ll : m.leg fs.length j < fs.length := leg_lt (by omega)
              have lt := tk_len gs m j
              have ex : x = (m.leg fs.length j : Int) := by
                unfold legsI at hx
                rw [List.getElem?_map, List.getElem?_range (by omega)] at hx
                exact (Option.some.inj hx).symm
              subst ex
              have et : tk gs m (j + 1) = (tk gs m j).set (m.leg fs.length j) (nt (tk gs m j) (m.leg fs.length j) - m.sg) := by rw [← eg]; rfl
              walk_at "go"
              refine at_nt _ rfl (by omega) ?_
              walk_at "go"
              rw [ixN_nat (by omega)]
              walk_at "go"
              exact ⟨_, by rw [et, List.map_set, show m.sg = -m.c by unfold Mv.sg; rw [hf]; rfl, Int.sub_neg]⟩
            · rintro ρ2 ⟨t15, rfl⟩
              rw [ogl2]
              walk_at "go"
              refine ⟨app gs m, done ++ [m], rest, _, _, _, _, _, _, _, _, _, _, _, _, by rw [List.length_append, List.length_singleton]; omega, by rw [app_len]; exact eg, R3, by rw [List.append_assoc]; exact em, by rw [List.map_append, ← mvD_eq es hf]; rfl⟩
          · have ed : t + 1 < m.d := by
              by_cases z : t + 1 = m.d
              · have ng := N.meet.neg
                rw [hf, eg, ← z] at ng; omega
              · omega
            walk_at "go"
            exact ⟨_, _, ed, rfl⟩
      · rintro ρ2 ⟨t7, t12, td, rfl⟩
        omega
  · rintro ρ2 ⟨gs, done, rest, t4, t5, t6, t7, t8, t9, t10, t11, t12, t13, t14, t15, di, eg, R2, em, rfl⟩
    have lm := congrArg List.length em
    rw [List.length_append] at lm
    omega
end Qk68
set_option Elab.async false
set_option linter.all false
set_option maxRecDepth 100000
set_option maxHeartbeats 8000000
namespace Qk68
open PySem PySem.Spec PyProof.Rows L2 DL
local macro_rules | `(tactic| walk_at "w") => `(tactic| (refine evI ?_; simp only [entry, List.length_nil, List.length_cons, List.map_nil, List.map_cons, List.replicate_succ, List.replicate_zero, Nat.reduceSub, Nat.reduceAdd, List.cons_append, List.nil_append, List.length_map, ↓ev_ev, ↓ev_and, ↓ev_all, ↓ev_ifT, ↓ev_ifF, ↓ev_ifN, ↓ev_ow_int, ↓ev_ow_bl, ↓ev_ow_non, ↓ev_ow_str, ↓ev_ow_cv, ↓ev_ow_prD, ↓ev_ow_tup, ↓ev_ow_lst, ↓ev_ow_lsk, ↓ev_ows_nil, ↓ev_ows_cons, ↓ev_ows_app, ↓ev_ows_int, ↓ev_ows_prD, ↓ev_sz0, ↓ev_sz1, ↓ev_sz2, ↓ev_sz3, ↓ev_sz4, ↓ev_sz5, ↓ev_sz6, ↓ev_sz7, ↓ev_sz8, ↓ev_c, ↓ev_op, ↓ev_neg, ↓ev_negI, ↓ev_ix, ↓ev_ixT, ↓ev_ixL, ↓ev_ixK, ↓ev_ixP0, ↓ev_ixP1, ↓ev_at0, ↓ev_at1, ↓ev_at2, ↓ev_at3, ↓ev_at4, ↓ev_at5, ↓ev_at6, ↓ev_at7, ↓ev_len, ↓ev_lenT, ↓ev_lenL, ↓ev_lenK, ↓ev_rdI0, ↓ev_rdI, ↓ev_rdAdd, ↓ev_rdSub, ↓ev_rdLt, ↓ev_rdLe, ↓ev_rdGt, ↓ev_rdGe, ↓ev_rdMul, ↓ev_rdFdiv, ↓ev_rdMod, ↓ev_rdEqI, ↓ev_rdEqS, ↓ev_rdNeI, ↓ev_rdNeS, ↓ev_isN_int, ↓ev_notN_int, ↓ev_isN_bl, ↓ev_notN_bl, ↓ev_isN_str, ↓ev_notN_str, ↓ev_isN_tup, ↓ev_notN_tup, ↓ev_isN_lst, ↓ev_notN_lst, ↓ev_isN_lsk, ↓ev_notN_lsk, ↓ev_isN_non, ↓ev_notN_non, ↓ev_pure, ↓ev_keep, ↓ev_keep_lst, ↓ev_keep_tup, ↓ev_keep_int, ↓ev_keep_non, ↓ev_keep_bl, ↓ev_keep_str, ↓ev_keep_lsk, ↓ev_keepP, ↓ev_keepS, ↓ev_eop, ↓ev_tup, ↓ev_lst, ↓ev_vs_nil, ↓ev_vs_1, ↓ev_vs_2, ↓ev_vs_3, ↓ev_vs_4, ↓ev_vs_5, ↓ev_vs_6, ↓ev_vs_7, ↓ev_eif, ↓ev_eand, ↓ev_andQ, ↓ev_eor, ↓ev_orQ, ↓ev_enot, ↓ev_notQ, ↓ev_enotT, ↓ev_eneg, ↓ev_eix, ↓ev_ixDT, ↓ev_ixDL, ↓ev_ixDP0, ↓ev_ixDP1, ↓ev_elen, ↓ev_callB, ↓ev_rdInt, ↓ev_rdMax, ↓ev_rdMin, ↓ev_rdAbs, ↓ev_call, ↓ev_res_nil, ↓ev_res_val, ↓ev_give_nil, ↓ev_give_val, ↓ev_app, ↓ev_appQ, ↓ev_pop, ↓ev_listP, ↓ev_listE, ↓ev_tupP, ↓ev_tupE, ↓ev_seq_tup, ↓ev_seq_lst, ↓ev_seq_lsk, ↓ev_cat, ↓ev_catQ, ↓ev_catQ2, ↓ev_catT, ↓ev_catTQ, ↓ev_catTQ2, ↓ev_rep, ↓ev_repQ, ↓ev_repQ2, ↓ev_slc, ↓ev_slcT, ↓ev_slcL, ↓ev_slcE, ↓ev_slcET, ↓ev_slcEL, ↓ev_poN, ↓ev_poS, ↓ev_iq, ↓ev_lc, ↓ev_wp1, ↓ev_wp2, ↓ev_wp3, ↓ev_ixS, ↓ev_lenS, ↓ev_seqS, ↓ev_walkS, ↓ev_owS, ↓ev_stry, ↓ev_listRg, ↓ev_lrg, ↓ev_anil, ↓ev_aval, ↓ev_alend, ↓ev_lendA, ↓ev_astar, ↓ev_tpure, ↓ev_bq, ↓ev_topd, ↓ev_ttruP, ↓ev_ttru, ↓ev_truB, ↓ev_truN, ↓ev_truT0, ↓ev_truT1, ↓ev_truL0, ↓ev_truL1, ↓ev_tnot, ↓ev_tand, ↓ev_tor, ↓ev_tall, ↓ev_tch, ↓ev_chq, ↓ev_isq, ↓ev_walkT, ↓ev_walkL, ↓ev_walkK, ↓ev_itp, ↓ev_tpI, ↓ev_ils, ↓ev_lsI, ↓ev_lsK, ↓ev_irg1, ↓ev_rg1, ↓ev_irg2, ↓ev_rg2, ↓ev_ienum, ↓ev_enumL, ↓ev_enumK, ↓ev_ienumT, ↓ev_gnm, ↓ev_gtp, ↓ev_tpq1, ↓ev_tpq2, ↓ev_tpq3, ↓ev_tpq4, ↓ev_tpq5, ↓ev_tpq6, ↓ev_tpqP, ↓ev_gsnil, ↓ev_gscons, ↓ev_sseq, ↓ev_snext, ↓ev_sbrk, ↓ev_scnt, ↓ev_sdrop, ↓ev_sret, ↓ev_sretn, ↓ev_sif, ↓ev_sset, ↓ev_sasg, ↓ev_sfor, ↓ev_swhile, ↓ev_ssetix, ↓ev_setixq, ↓ev_sraise, ↓ev_lnq, ↓ev_lnq0, ↓ev_spar, ↓ev_parq, ↓ev_var0, ↓ev_set0, ↓ev_mov0, ↓ev_frz0, ↓ev_frzT0, ↓ev_lv0, ↓ev_app2_0, ↓ev_aug0, ↓ev_augq0, ↓ev_setixn0, ↓ev_popq0, ↓ev_lend0, ↓ev_giveL0, ↓ev_var1, ↓ev_set1, ↓ev_mov1, ↓ev_frz1, ↓ev_frzT1, ↓ev_lv1, ↓ev_app2_1, ↓ev_aug1, ↓ev_augq1, ↓ev_setixn1, ↓ev_popq1, ↓ev_lend1, ↓ev_giveL1, ↓ev_var2, ↓ev_set2, ↓ev_mov2, ↓ev_frz2, ↓ev_frzT2, ↓ev_lv2, ↓ev_app2_2, ↓ev_aug2, ↓ev_augq2, ↓ev_setixn2, ↓ev_popq2, ↓ev_lend2, ↓ev_giveL2, ↓ev_var3, ↓ev_set3, ↓ev_mov3, ↓ev_frz3, ↓ev_frzT3, ↓ev_lv3, ↓ev_app2_3, ↓ev_aug3, ↓ev_augq3, ↓ev_setixn3, ↓ev_popq3, ↓ev_lend3, ↓ev_giveL3, ↓ev_var4, ↓ev_set4, ↓ev_mov4, ↓ev_frz4, ↓ev_frzT4, ↓ev_lv4, ↓ev_app2_4, ↓ev_aug4, ↓ev_augq4, ↓ev_setixn4, ↓ev_popq4, ↓ev_lend4, ↓ev_giveL4, ↓ev_var5, ↓ev_set5, ↓ev_mov5, ↓ev_frz5, ↓ev_frzT5, ↓ev_lv5, ↓ev_app2_5, ↓ev_aug5, ↓ev_augq5, ↓ev_setixn5, ↓ev_popq5, ↓ev_lend5, ↓ev_giveL5, ↓ev_var6, ↓ev_set6, ↓ev_mov6, ↓ev_frz6, ↓ev_frzT6, ↓ev_lv6, ↓ev_app2_6, ↓ev_aug6, ↓ev_augq6, ↓ev_setixn6, ↓ev_popq6, ↓ev_lend6, ↓ev_giveL6, ↓ev_var7, ↓ev_set7, ↓ev_mov7, ↓ev_frz7, ↓ev_frzT7, ↓ev_lv7, ↓ev_app2_7, ↓ev_aug7, ↓ev_augq7, ↓ev_setixn7, ↓ev_popq7, ↓ev_lend7, ↓ev_giveL7, ↓ev_var8, ↓ev_set8, ↓ev_mov8, ↓ev_frz8, ↓ev_frzT8, ↓ev_lv8, ↓ev_app2_8, ↓ev_aug8, ↓ev_augq8, ↓ev_setixn8, ↓ev_popq8, ↓ev_lend8, ↓ev_giveL8, ↓ev_var9, ↓ev_set9, ↓ev_mov9, ↓ev_frz9, ↓ev_frzT9, ↓ev_lv9, ↓ev_app2_9, ↓ev_aug9, ↓ev_augq9, ↓ev_setixn9, ↓ev_popq9, ↓ev_lend9, ↓ev_giveL9, ↓ev_var10, ↓ev_set10, ↓ev_mov10, ↓ev_frz10, ↓ev_frzT10, ↓ev_lv10, ↓ev_app2_10, ↓ev_aug10, ↓ev_augq10, ↓ev_setixn10, ↓ev_popq10, ↓ev_lend10, ↓ev_giveL10, ↓ev_var11, ↓ev_set11, ↓ev_mov11, ↓ev_frz11, ↓ev_frzT11, ↓ev_lv11, ↓ev_app2_11, ↓ev_aug11, ↓ev_augq11, ↓ev_setixn11, ↓ev_popq11, ↓ev_lend11, ↓ev_giveL11, ↓ev_var12, ↓ev_set12, ↓ev_mov12, ↓ev_frz12, ↓ev_frzT12, ↓ev_lv12, ↓ev_app2_12, ↓ev_aug12, ↓ev_augq12, ↓ev_setixn12, ↓ev_popq12, ↓ev_lend12, ↓ev_giveL12, ↓ev_var13, ↓ev_set13, ↓ev_mov13, ↓ev_frz13, ↓ev_frzT13, ↓ev_lv13, ↓ev_app2_13, ↓ev_aug13, ↓ev_augq13, ↓ev_setixn13, ↓ev_popq13, ↓ev_lend13, ↓ev_giveL13, ↓ev_var14, ↓ev_set14, ↓ev_mov14, ↓ev_frz14, ↓ev_frzT14, ↓ev_lv14, ↓ev_app2_14, ↓ev_aug14, ↓ev_augq14, ↓ev_setixn14, ↓ev_popq14, ↓ev_lend14, ↓ev_giveL14, ↓ev_var15, ↓ev_set15, ↓ev_mov15, ↓ev_frz15, ↓ev_frzT15, ↓ev_lv15, ↓ev_app2_15, ↓ev_aug15, ↓ev_augq15, ↓ev_setixn15, ↓ev_popq15, ↓ev_lend15, ↓ev_giveL15, ↓ev_enS0, ↓ev_enT0, ↓ev_enL0, ↓ev_enS1, ↓ev_enT1, ↓ev_enL1, ↓ev_enS2, ↓ev_enT2, ↓ev_enL2, ↓ev_enS3, ↓ev_enT3, ↓ev_enL3, ↓ev_enS4, ↓ev_enT4, ↓ev_enL4, ↓ev_enS5, ↓ev_enT5, ↓ev_enL5, ↓ev_enS6, ↓ev_enT6, ↓ev_enL6, ↓ev_enS7, ↓ev_enT7, ↓ev_enL7, ↓ev_enS8, ↓ev_enT8, ↓ev_enL8, ↓ev_enS9, ↓ev_enT9, ↓ev_enL9, ↓ev_enS10, ↓ev_enT10, ↓ev_enL10, ↓ev_enS11, ↓ev_enT11, ↓ev_enL11, ↓ev_enS12, ↓ev_enT12, ↓ev_enL12, ↓ev_enS13, ↓ev_enT13, ↓ev_enL13, ↓ev_enS14, ↓ev_enT14, ↓ev_enL14, ↓ev_enS15, ↓ev_enT15, ↓ev_enL15, ↓ev_adq, ↓ev_rdAny, ↓ev_rdAll, ↓ev_rdSum, ↓ev_rdMaxL, ↓ev_rdMinL, ↓ev_ext, ↓ev_extQ, ↓ev_zip, ↓ev_zipT, ↓ev_zipL, ↓ev_pch, ↓ev_pchq, ↓ev_repP, ↓ev_repPQ, ↓ev_ext2_0, ↓ev_ext2_1, ↓ev_ext2_2, ↓ev_ext2_3, ↓ev_ext2_4, ↓ev_ext2_5, ↓ev_ext2_6, ↓ev_ext2_7, ↓ev_ext2_8, ↓ev_ext2_9, ↓ev_ext2_10, ↓ev_ext2_11, ↓ev_ext2_12, ↓ev_ext2_13, ↓ev_ext2_14, ↓ev_ext2_15, ↓ev_stryM, ↓ev_raise0, ↓ev_isB, ↓ev_notB, ↓ev_zip4, ↓ev_sumP, ↓ev_sumQ, ↓ev_sortI, ↓ev_sort2, ↓ev_augix, ↓ev_augixr0, ↓ev_augixr1, ↓ev_augixr2, ↓ev_augixr3, ↓ev_augixr4, ↓ev_augixr5, ↓ev_augixr6, ↓ev_augixr7, ↓ev_augixr8, ↓ev_augixr9, ↓ev_augixr10, ↓ev_augixr11, ↓ev_augixr12, ↓ev_augixr13, ↓ev_augixr14, ↓ev_augixr15, ↓ev_rdI3, ↓ev_setixe, ↓ev_setixeq, ev_fr1_lst, ev_fr1_tup, ev_fr1_int, ev_fr1_non, ev_fr1_bl, ev_fr1_str, ev_fr1_lsk, ev_fr1S, ev_addrP, ev_addrL]))
local macro_rules | `(tactic| walk_at "d") => `(tactic| first
  | refine And.intro (by first | assumption | omega | exact mul_smallL (by omega) (by omega) | exact mul_small (by omega) (by omega) | exact divw (by omega) (by omega) | exact rg_of (by omega) (by omega) | exact RgOk.of_le (by omega) (by omega) (by omega) (by omega) | exact lenok (by first | omega | (simp only [List.length_map, List.length_append, List.length_cons, List.length_nil, List.length_take, List.length_drop]; omega))) ?_
  | refine ow (by first | assumption | (simp only [own, owns, List.append_nil, List.nil_append]; first | done | assumption)) ?_
  | refine ows (by first | assumption | exact owns_map_nil (fun _ => rfl) _ | exact owns_rows _) ?_
  | refine sz (by first | omega | (simp only [List.length_map, List.length_append, List.length_cons, List.length_nil, List.length_take, List.length_drop]; omega)) ?_
  | refine brT (by omega) ?_
  | refine brF (by omega) ?_)
local macro_rules | `(tactic| walk_at "go") => `(tactic| (try walk_at "w") <;> repeat (walk_at "d" <;> try walk_at "w"))

theorem row_ext {a b : List Int} (h : a.length = b.length) (e : ∀ k, k < a.length → nt a k = nt b k) : a = b := by
  refine List.ext_getElem? fun k => ?_
  by_cases hk : k < a.length
  · rw [nt_get hk, nt_get (show k < b.length by omega), e k hk]
  · rw [List.getElem?_eq_none (by omega), List.getElem?_eq_none (by omega)]
def dif (fs gs : List Int) : List Int := (List.range fs.length).map fun k => nt fs k - nt gs k
theorem dif_len (fs gs : List Int) : (dif fs gs).length = fs.length := by unfold dif; rw [List.length_map, List.length_range]
theorem dif_nt {fs gs : List Int} {k : Nat} (h : k < fs.length) : nt (dif fs gs) k = nt fs k - nt gs k := nt_of (by
  unfold dif
  rw [List.getElem?_map, List.getElem?_range h]; rfl)
theorem dif_self (fs : List Int) : dif fs fs = List.replicate fs.length 0 := by
  refine row_ext (by rw [dif_len, List.length_replicate]) fun k hk => ?_
  rw [dif_len] at hk
  rw [dif_nt hk, nt_of (show (List.replicate fs.length (0 : Int))[k]? = some 0 by rw [List.getElem?_replicate, if_pos hk])]
  omega
theorem rep_flat (n : Nat) (d : D) : (List.replicate n [d]).flatten = List.replicate n d := by
  induction n with
  | zero => rfl
  | succ n ih => rw [List.replicate_succ, List.flatten_cons, ih, List.replicate_succ]; rfl
theorem dif_set {fs gs : List Int} {k : Nat} {v w : Int} (h : k < fs.length) (hl : gs.length = fs.length) (e : w = nt fs k - v) : (dif fs gs).set k w = dif fs (gs.set k v) := by
  refine row_ext (by rw [List.length_set, dif_len, dif_len]) fun j hj => ?_
  rw [List.length_set, dif_len] at hj
  rw [nt_set (by rw [dif_len]; exact hj), dif_nt hj, dif_nt hj, nt_set (by omega)]
  by_cases z : j = k
  · rw [if_pos z, if_pos z, e, z]
  · rw [if_neg z, if_neg z]
theorem dif_zero {fs gs : List Int} (h : ∀ k, k < fs.length → nt gs k = 0) : dif fs gs = fs := by
  refine row_ext (dif_len _ _) fun k hk => ?_
  rw [dif_len] at hk
  rw [dif_nt hk, h k hk]; omega
def Unused (fs : List Int) : Prop := ∃ k, k < fs.length ∧ nt fs k = 0
def sp_laid : DSp := fun ds Q _ => ∃ (fs : List Int) (q : Sq (fs.map .int)) (ms : List Mv), ds = [q.d, .tup (ms.map (mvD fs.length))] ∧ fs.length < 1000 ∧ Run fs ms ∧ ms.length < 1000 ∧ Unused fs ∧ Q (.tup (fs.map .int)) [q.d, .tup (ms.map (mvD fs.length))]
theorem iB4 {n s t : Nat} (h : 0 < n) : ((port n s false t : Int) - 1 + (n : Int)) % (n : Int) = (port n s false (t + 1) : Int) := by
  rw [← iB3 h]; congr 1; omega
theorem iF2 {n s t : Nat} (h : 0 < n) : (if (port n s true t : Int) + 1 = (n : Int) then (0 : Int) else (port n s true t : Int) + 1) = (port n s true (t + 1) : Int) := by
  rw [← iF]
  have l : port n s true t < n := port_lt h
  by_cases z : (port n s true t : Int) + 1 = (n : Int)
  · rw [if_pos z, z, Int.emod_self]
  · rw [if_neg z, Int.emod_eq_of_lt (by omega) (by omega)]
theorem word_laid : ∀ ds Qd Qx, sp_laid ds Qd Qx → w_law_laid (Ends' ds Qd Qx) (entry N_law_laid ds) := by
  rintro ds Qd Qx ⟨fs, q, ms, rfl, hl, R, hm, U, h⟩
  have oq := owS q (owns_ints fs)
  have om := owns_mvs fs.length ms
  have oT : own (.tup (ms.map (mvD fs.length))) = [] := om
  unfold w_law_laid
  walk_at "go"
  intro p
  walk_at "go"
  intro p2
  rw [rep_flat, Int.toNat_natCast, show List.replicate fs.length (D.int 0) = (dif fs fs).map .int by rw [dif_self, List.map_replicate]]
  have od := owns_ints (dif fs fs)
  walk_at "go"
  refine forMap (fun i ρ => ∃ (gs : List Int) (done rest : List Mv) (t4 t5 t6 t7 t8 t9 t10 : Option D), done.length = i ∧ gs.length = fs.length ∧ Run gs rest ∧ ms = done ++ rest ∧ Unused gs ∧ (∀ k, k < fs.length → Btw (nt gs k) (nt fs k)) ∧ ρ = [some q.d, some (.tup (ms.map (mvD fs.length))), some (.int (fs.length : Int)), some (.lst (some p2) ((dif fs gs).map .int)), t4, t5, t6, t7, t8, t9, t10]) ⟨fs, [], ms, none, none, none, none, none, none, none, rfl, rfl, R, rfl, U, fun k _ => Btw.refl _, rfl⟩ ?_ ?_
  · rintro i x ρ2 hx ⟨gs, done, rest, t4, t5, t6, t7, t8, t9, t10, di, eg, R2, em, U2, B, rfl⟩
    have hx2 : rest = x :: rest.drop 1 := by
      rw [em, List.getElem?_append_right (by omega), di, Nat.sub_self] at hx
      cases rest with
      | nil => simp at hx
      | cons y r => rw [Option.some.inj (show some y = some x from hx)]; rfl
    generalize rest.drop 1 = rest' at hx2
    subst hx2
    obtain ⟨N, R3⟩ := run_cons R2
    have hs0 := N.lt
    have hd0 := N.meet.lt
    have hs : x.s < fs.length := by omega
    have hd : x.d < fs.length := by omega
    have h1d := N.meet.one
    have hn : 0 < fs.length := by omega
    walk_at "go"
    cases hf : x.fwd
    case true =>
      have el : ∀ t, (x.leg fs.length t : Nat) = port fs.length x.s true t := fun t => by unfold Mv.leg Qk68.leg; rw [hf]; rfl
      have es : x.stop fs.length = port fs.length x.s true x.d := by unfold Mv.stop; rw [hf]
      rw [es]
      refine forRg (fun t ρ => ∃ (k : Nat) (t9 t10 : Option D), k = min t x.d ∧ ρ = [some q.d, some (.tup (ms.map (mvD fs.length))), some (.int (fs.length : Int)), some (.lst (some p2) ((dif fs (tk gs x k)).map .int)), some (.int (x.s : Int)), some (.str (dirS true)), some (.int (port fs.length x.s true x.d : Int)), some (.int x.c), some (.int (port fs.length x.s true k : Int)), t9, t10]) ⟨0, _, _, by omega, by rw [port_zero hs]; rfl⟩ ?_ ?_
      · rintro t ρ2 ht ⟨k, t9, t10, ek, rfl⟩
        have od2 := owns_ints (dif fs (tk gs x k))
        have ld := dif_len fs (tk gs x k)
        have iff1 : ((port fs.length x.s true k : Int) = (port fs.length x.s true x.d : Int)) ↔ k = x.d := ⟨fun e => port_inj hs (by omega) hd (Int.ofNat_inj.mp e), fun e => by rw [e]⟩
        walk_at "go"
        refine br (fun c1 => ?_) (fun c1 => ?_)
        · have ed := iff1.mp c1
          walk_at "go"
          exact ⟨k, _, _, by omega, rfl⟩
        have kd : k < x.d := by
          refine Classical.byContradiction fun z => c1 (iff1.mpr (by omega))
        have lb := leg_between N kd
        have cp := N.c_pos
        have ll : x.leg fs.length k < fs.length := leg_lt hn
        have bt := B _ ll
        have tn := tk_next hs0 hd0 kd
        have et : tk gs x (k + 1) = (tk gs x k).set (x.leg fs.length k) (nt gs (x.leg fs.length k) - x.sg) := by rw [← eg, ← tn]; rfl
        rw [eg] at lb tn
        have v := dif_nt (fs := fs) (gs := tk gs x k) ll
        rw [tn] at v
        have lb := lb.1 hf
        unfold Btw at bt
        have esg : x.sg = x.c := by unfold Mv.sg; rw [hf]; rfl
        have lk := tk_len gs x k
        have es2 := dif_set (fs := fs) (gs := tk gs x k) (v := nt gs (x.leg fs.length k) - x.sg) (w := nt (dif fs (tk gs x k)) (x.leg fs.length k) + x.c) ll (by omega) (by omega)
        rw [el k] at *
        walk_at "go"
        refine at_nt _ rfl (by omega) ?_
        walk_at "go"
        refine at_nt _ rfl (by omega) ?_
        walk_at "go"
        rw [ixN_nat (by omega)]
        walk_at "go"
        rw [← List.map_set, es2, ← et]
        have i2 := iF2 (s := x.s) (t := k) hn
        refine br (fun c4 => ?_) (fun c4 => ?_)
        · rw [if_pos c4] at i2
          walk_at "go"
          exact ⟨k + 1, _, _, by omega, by rw [← i2]⟩
        · rw [if_neg c4] at i2
          walk_at "go"
          exact ⟨k + 1, _, _, by omega, by rw [← i2]⟩
      · rintro ρ2 ⟨k, t9, t10, ek, rfl⟩
        have ek : k = x.d := by omega
        subst ek
        walk_at "go"
        exact ⟨app gs x, done ++ [x], rest', _, _, _, _, _, _, _, by rw [List.length_append, List.length_singleton]; omega, by rw [app_len]; exact eg, R3, by rw [List.append_assoc]; exact em, app_unused N U2, fun k hk => (app_btw N (by omega)).trans (B k hk), rfl⟩
    case false =>
      have el : ∀ t, (x.leg fs.length t : Nat) = port fs.length x.s false (t + 1) := fun t => by unfold Mv.leg Qk68.leg; rw [hf]; rfl
      have es : x.stop fs.length = port fs.length x.s false x.d := by unfold Mv.stop; rw [hf]
      rw [es]
      refine forRg (fun t ρ => ∃ (k : Nat) (t9 t10 : Option D), k = min t x.d ∧ ρ = [some q.d, some (.tup (ms.map (mvD fs.length))), some (.int (fs.length : Int)), some (.lst (some p2) ((dif fs (tk gs x k)).map .int)), some (.int (x.s : Int)), some (.str (dirS false)), some (.int (port fs.length x.s false x.d : Int)), some (.int x.c), some (.int (port fs.length x.s false k : Int)), t9, t10]) ⟨0, _, _, by omega, by rw [port_zero hs]; rfl⟩ ?_ ?_
      · rintro t ρ2 ht ⟨k, t9, t10, ek, rfl⟩
        have od2 := owns_ints (dif fs (tk gs x k))
        have ld := dif_len fs (tk gs x k)
        have iff1 : ((port fs.length x.s false k : Int) = (port fs.length x.s false x.d : Int)) ↔ k = x.d := ⟨fun e => port_inj hs (by omega) hd (Int.ofNat_inj.mp e), fun e => by rw [e]⟩
        walk_at "go"
        refine br (fun c1 => ?_) (fun c1 => ?_)
        · have ed := iff1.mp c1
          walk_at "go"
          exact ⟨k, _, _, by omega, rfl⟩
        have kd : k < x.d := by
          refine Classical.byContradiction fun z => c1 (iff1.mpr (by omega))
        have lb := leg_between N kd
        have cp := N.c_pos
        have ll : x.leg fs.length k < fs.length := leg_lt hn
        have bt := B _ ll
        have tn := tk_next hs0 hd0 kd
        have et : tk gs x (k + 1) = (tk gs x k).set (x.leg fs.length k) (nt gs (x.leg fs.length k) - x.sg) := by rw [← eg, ← tn]; rfl
        rw [eg] at lb tn
        have v := dif_nt (fs := fs) (gs := tk gs x k) ll
        rw [tn] at v
        have lb := lb.2 hf
        unfold Btw at bt
        have esg : x.sg = -x.c := by unfold Mv.sg; rw [hf]; rfl
        have lk := tk_len gs x k
        have es2 := dif_set (fs := fs) (gs := tk gs x k) (v := nt gs (x.leg fs.length k) - x.sg) (w := nt (dif fs (tk gs x k)) (x.leg fs.length k) + -x.c) ll (by omega) (by omega)
        rw [el k] at *
        walk_at "go"
        rw [emod_of, iB4 hn]
        refine at_nt _ rfl (by omega) ?_
        walk_at "go"
        refine at_nt _ rfl (by omega) ?_
        walk_at "go"
        rw [ixN_nat (by omega)]
        walk_at "go"
        rw [← List.map_set, es2, ← et]
        have pl : port fs.length x.s false (k + 1) < fs.length := port_lt hn
        walk_at "go"
        exact ⟨k + 1, _, _, by omega, rfl⟩
      · rintro ρ2 ⟨k, t9, t10, ek, rfl⟩
        have ek : k = x.d := by omega
        subst ek
        walk_at "go"
        exact ⟨app gs x, done ++ [x], rest', _, _, _, _, _, _, _, by rw [List.length_append, List.length_singleton]; omega, by rw [app_len]; exact eg, R3, by rw [List.append_assoc]; exact em, app_unused N U2, fun k hk => (app_btw N (by omega)).trans (B k hk), rfl⟩
  · rintro ρ2 ⟨gs, done, rest, t4, t5, t6, t7, t8, t9, t10, di, eg, R2, em, U2, B, rfl⟩
    have er : rest = [] := by
      have := congrArg List.length em
      rw [List.length_append] at this
      exact List.length_eq_zero_iff.mp (by omega)
    subst er
    have z := done_zero (run_nil R2) U2
    rw [dif_zero fun k hk => z k (by omega)]
    have oz := owns_ints fs
    walk_at "go"
    exact finV oq (finV oT (fin0 h))
end Qk68
set_option Elab.async false
set_option linter.all false
set_option maxRecDepth 100000
set_option maxHeartbeats 8000000
namespace Qk68
open PySem PySem.Spec PyProof.Rows L2 DL
local macro_rules | `(tactic| walk_at "w") => `(tactic| (refine evI ?_; simp only [entry, List.length_nil, List.length_cons, List.map_nil, List.map_cons, List.replicate_succ, List.replicate_zero, Nat.reduceSub, Nat.reduceAdd, List.cons_append, List.nil_append, List.length_map, ↓ev_ev, ↓ev_and, ↓ev_all, ↓ev_ifT, ↓ev_ifF, ↓ev_ifN, ↓ev_ow_int, ↓ev_ow_bl, ↓ev_ow_non, ↓ev_ow_str, ↓ev_ow_cv, ↓ev_ow_prD, ↓ev_ow_tup, ↓ev_ow_lst, ↓ev_ow_lsk, ↓ev_ows_nil, ↓ev_ows_cons, ↓ev_ows_app, ↓ev_ows_int, ↓ev_ows_prD, ↓ev_sz0, ↓ev_sz1, ↓ev_sz2, ↓ev_sz3, ↓ev_sz4, ↓ev_sz5, ↓ev_sz6, ↓ev_sz7, ↓ev_sz8, ↓ev_c, ↓ev_op, ↓ev_neg, ↓ev_negI, ↓ev_ix, ↓ev_ixT, ↓ev_ixL, ↓ev_ixK, ↓ev_ixP0, ↓ev_ixP1, ↓ev_at0, ↓ev_at1, ↓ev_at2, ↓ev_at3, ↓ev_at4, ↓ev_at5, ↓ev_at6, ↓ev_at7, ↓ev_len, ↓ev_lenT, ↓ev_lenL, ↓ev_lenK, ↓ev_rdI0, ↓ev_rdI, ↓ev_rdAdd, ↓ev_rdSub, ↓ev_rdLt, ↓ev_rdLe, ↓ev_rdGt, ↓ev_rdGe, ↓ev_rdMul, ↓ev_rdFdiv, ↓ev_rdMod, ↓ev_rdEqI, ↓ev_rdEqS, ↓ev_rdNeI, ↓ev_rdNeS, ↓ev_isN_int, ↓ev_notN_int, ↓ev_isN_bl, ↓ev_notN_bl, ↓ev_isN_str, ↓ev_notN_str, ↓ev_isN_tup, ↓ev_notN_tup, ↓ev_isN_lst, ↓ev_notN_lst, ↓ev_isN_lsk, ↓ev_notN_lsk, ↓ev_isN_non, ↓ev_notN_non, ↓ev_pure, ↓ev_keep, ↓ev_keep_lst, ↓ev_keep_tup, ↓ev_keep_int, ↓ev_keep_non, ↓ev_keep_bl, ↓ev_keep_str, ↓ev_keep_lsk, ↓ev_keepP, ↓ev_keepS, ↓ev_eop, ↓ev_tup, ↓ev_lst, ↓ev_vs_nil, ↓ev_vs_1, ↓ev_vs_2, ↓ev_vs_3, ↓ev_vs_4, ↓ev_vs_5, ↓ev_vs_6, ↓ev_vs_7, ↓ev_eif, ↓ev_eand, ↓ev_andQ, ↓ev_eor, ↓ev_orQ, ↓ev_enot, ↓ev_notQ, ↓ev_enotT, ↓ev_eneg, ↓ev_eix, ↓ev_ixDT, ↓ev_ixDL, ↓ev_ixDP0, ↓ev_ixDP1, ↓ev_elen, ↓ev_callB, ↓ev_rdInt, ↓ev_rdMax, ↓ev_rdMin, ↓ev_rdAbs, ↓ev_call, ↓ev_res_nil, ↓ev_res_val, ↓ev_give_nil, ↓ev_give_val, ↓ev_app, ↓ev_appQ, ↓ev_pop, ↓ev_listP, ↓ev_listE, ↓ev_tupP, ↓ev_tupE, ↓ev_seq_tup, ↓ev_seq_lst, ↓ev_seq_lsk, ↓ev_cat, ↓ev_catQ, ↓ev_catQ2, ↓ev_catT, ↓ev_catTQ, ↓ev_catTQ2, ↓ev_rep, ↓ev_repQ, ↓ev_repQ2, ↓ev_slc, ↓ev_slcT, ↓ev_slcL, ↓ev_slcE, ↓ev_slcET, ↓ev_slcEL, ↓ev_poN, ↓ev_poS, ↓ev_iq, ↓ev_lc, ↓ev_wp1, ↓ev_wp2, ↓ev_wp3, ↓ev_ixS, ↓ev_lenS, ↓ev_seqS, ↓ev_walkS, ↓ev_owS, ↓ev_stry, ↓ev_listRg, ↓ev_lrg, ↓ev_anil, ↓ev_aval, ↓ev_alend, ↓ev_lendA, ↓ev_astar, ↓ev_tpure, ↓ev_bq, ↓ev_topd, ↓ev_ttruP, ↓ev_ttru, ↓ev_truB, ↓ev_truN, ↓ev_truT0, ↓ev_truT1, ↓ev_truL0, ↓ev_truL1, ↓ev_tnot, ↓ev_tand, ↓ev_tor, ↓ev_tall, ↓ev_tch, ↓ev_chq, ↓ev_isq, ↓ev_walkT, ↓ev_walkL, ↓ev_walkK, ↓ev_itp, ↓ev_tpI, ↓ev_ils, ↓ev_lsI, ↓ev_lsK, ↓ev_irg1, ↓ev_rg1, ↓ev_irg2, ↓ev_rg2, ↓ev_ienum, ↓ev_enumL, ↓ev_enumK, ↓ev_ienumT, ↓ev_gnm, ↓ev_gtp, ↓ev_tpq1, ↓ev_tpq2, ↓ev_tpq3, ↓ev_tpq4, ↓ev_tpq5, ↓ev_tpq6, ↓ev_tpqP, ↓ev_gsnil, ↓ev_gscons, ↓ev_sseq, ↓ev_snext, ↓ev_sbrk, ↓ev_scnt, ↓ev_sdrop, ↓ev_sret, ↓ev_sretn, ↓ev_sif, ↓ev_sset, ↓ev_sasg, ↓ev_sfor, ↓ev_swhile, ↓ev_ssetix, ↓ev_setixq, ↓ev_sraise, ↓ev_lnq, ↓ev_lnq0, ↓ev_spar, ↓ev_parq, ↓ev_var0, ↓ev_set0, ↓ev_mov0, ↓ev_frz0, ↓ev_frzT0, ↓ev_lv0, ↓ev_app2_0, ↓ev_aug0, ↓ev_augq0, ↓ev_setixn0, ↓ev_popq0, ↓ev_lend0, ↓ev_giveL0, ↓ev_var1, ↓ev_set1, ↓ev_mov1, ↓ev_frz1, ↓ev_frzT1, ↓ev_lv1, ↓ev_app2_1, ↓ev_aug1, ↓ev_augq1, ↓ev_setixn1, ↓ev_popq1, ↓ev_lend1, ↓ev_giveL1, ↓ev_var2, ↓ev_set2, ↓ev_mov2, ↓ev_frz2, ↓ev_frzT2, ↓ev_lv2, ↓ev_app2_2, ↓ev_aug2, ↓ev_augq2, ↓ev_setixn2, ↓ev_popq2, ↓ev_lend2, ↓ev_giveL2, ↓ev_var3, ↓ev_set3, ↓ev_mov3, ↓ev_frz3, ↓ev_frzT3, ↓ev_lv3, ↓ev_app2_3, ↓ev_aug3, ↓ev_augq3, ↓ev_setixn3, ↓ev_popq3, ↓ev_lend3, ↓ev_giveL3, ↓ev_var4, ↓ev_set4, ↓ev_mov4, ↓ev_frz4, ↓ev_frzT4, ↓ev_lv4, ↓ev_app2_4, ↓ev_aug4, ↓ev_augq4, ↓ev_setixn4, ↓ev_popq4, ↓ev_lend4, ↓ev_giveL4, ↓ev_var5, ↓ev_set5, ↓ev_mov5, ↓ev_frz5, ↓ev_frzT5, ↓ev_lv5, ↓ev_app2_5, ↓ev_aug5, ↓ev_augq5, ↓ev_setixn5, ↓ev_popq5, ↓ev_lend5, ↓ev_giveL5, ↓ev_var6, ↓ev_set6, ↓ev_mov6, ↓ev_frz6, ↓ev_frzT6, ↓ev_lv6, ↓ev_app2_6, ↓ev_aug6, ↓ev_augq6, ↓ev_setixn6, ↓ev_popq6, ↓ev_lend6, ↓ev_giveL6, ↓ev_var7, ↓ev_set7, ↓ev_mov7, ↓ev_frz7, ↓ev_frzT7, ↓ev_lv7, ↓ev_app2_7, ↓ev_aug7, ↓ev_augq7, ↓ev_setixn7, ↓ev_popq7, ↓ev_lend7, ↓ev_giveL7, ↓ev_var8, ↓ev_set8, ↓ev_mov8, ↓ev_frz8, ↓ev_frzT8, ↓ev_lv8, ↓ev_app2_8, ↓ev_aug8, ↓ev_augq8, ↓ev_setixn8, ↓ev_popq8, ↓ev_lend8, ↓ev_giveL8, ↓ev_var9, ↓ev_set9, ↓ev_mov9, ↓ev_frz9, ↓ev_frzT9, ↓ev_lv9, ↓ev_app2_9, ↓ev_aug9, ↓ev_augq9, ↓ev_setixn9, ↓ev_popq9, ↓ev_lend9, ↓ev_giveL9, ↓ev_var10, ↓ev_set10, ↓ev_mov10, ↓ev_frz10, ↓ev_frzT10, ↓ev_lv10, ↓ev_app2_10, ↓ev_aug10, ↓ev_augq10, ↓ev_setixn10, ↓ev_popq10, ↓ev_lend10, ↓ev_giveL10, ↓ev_var11, ↓ev_set11, ↓ev_mov11, ↓ev_frz11, ↓ev_frzT11, ↓ev_lv11, ↓ev_app2_11, ↓ev_aug11, ↓ev_augq11, ↓ev_setixn11, ↓ev_popq11, ↓ev_lend11, ↓ev_giveL11, ↓ev_var12, ↓ev_set12, ↓ev_mov12, ↓ev_frz12, ↓ev_frzT12, ↓ev_lv12, ↓ev_app2_12, ↓ev_aug12, ↓ev_augq12, ↓ev_setixn12, ↓ev_popq12, ↓ev_lend12, ↓ev_giveL12, ↓ev_var13, ↓ev_set13, ↓ev_mov13, ↓ev_frz13, ↓ev_frzT13, ↓ev_lv13, ↓ev_app2_13, ↓ev_aug13, ↓ev_augq13, ↓ev_setixn13, ↓ev_popq13, ↓ev_lend13, ↓ev_giveL13, ↓ev_var14, ↓ev_set14, ↓ev_mov14, ↓ev_frz14, ↓ev_frzT14, ↓ev_lv14, ↓ev_app2_14, ↓ev_aug14, ↓ev_augq14, ↓ev_setixn14, ↓ev_popq14, ↓ev_lend14, ↓ev_giveL14, ↓ev_var15, ↓ev_set15, ↓ev_mov15, ↓ev_frz15, ↓ev_frzT15, ↓ev_lv15, ↓ev_app2_15, ↓ev_aug15, ↓ev_augq15, ↓ev_setixn15, ↓ev_popq15, ↓ev_lend15, ↓ev_giveL15, ↓ev_enS0, ↓ev_enT0, ↓ev_enL0, ↓ev_enS1, ↓ev_enT1, ↓ev_enL1, ↓ev_enS2, ↓ev_enT2, ↓ev_enL2, ↓ev_enS3, ↓ev_enT3, ↓ev_enL3, ↓ev_enS4, ↓ev_enT4, ↓ev_enL4, ↓ev_enS5, ↓ev_enT5, ↓ev_enL5, ↓ev_enS6, ↓ev_enT6, ↓ev_enL6, ↓ev_enS7, ↓ev_enT7, ↓ev_enL7, ↓ev_enS8, ↓ev_enT8, ↓ev_enL8, ↓ev_enS9, ↓ev_enT9, ↓ev_enL9, ↓ev_enS10, ↓ev_enT10, ↓ev_enL10, ↓ev_enS11, ↓ev_enT11, ↓ev_enL11, ↓ev_enS12, ↓ev_enT12, ↓ev_enL12, ↓ev_enS13, ↓ev_enT13, ↓ev_enL13, ↓ev_enS14, ↓ev_enT14, ↓ev_enL14, ↓ev_enS15, ↓ev_enT15, ↓ev_enL15, ↓ev_adq, ↓ev_rdAny, ↓ev_rdAll, ↓ev_rdSum, ↓ev_rdMaxL, ↓ev_rdMinL, ↓ev_ext, ↓ev_extQ, ↓ev_zip, ↓ev_zipT, ↓ev_zipL, ↓ev_pch, ↓ev_pchq, ↓ev_repP, ↓ev_repPQ, ↓ev_ext2_0, ↓ev_ext2_1, ↓ev_ext2_2, ↓ev_ext2_3, ↓ev_ext2_4, ↓ev_ext2_5, ↓ev_ext2_6, ↓ev_ext2_7, ↓ev_ext2_8, ↓ev_ext2_9, ↓ev_ext2_10, ↓ev_ext2_11, ↓ev_ext2_12, ↓ev_ext2_13, ↓ev_ext2_14, ↓ev_ext2_15, ↓ev_stryM, ↓ev_raise0, ↓ev_isB, ↓ev_notB, ↓ev_zip4, ↓ev_sumP, ↓ev_sumQ, ↓ev_sortI, ↓ev_sort2, ↓ev_augix, ↓ev_augixr0, ↓ev_augixr1, ↓ev_augixr2, ↓ev_augixr3, ↓ev_augixr4, ↓ev_augixr5, ↓ev_augixr6, ↓ev_augixr7, ↓ev_augixr8, ↓ev_augixr9, ↓ev_augixr10, ↓ev_augixr11, ↓ev_augixr12, ↓ev_augixr13, ↓ev_augixr14, ↓ev_augixr15, ↓ev_rdI3, ↓ev_setixe, ↓ev_setixeq, ev_fr1_lst, ev_fr1_tup, ev_fr1_int, ev_fr1_non, ev_fr1_bl, ev_fr1_str, ev_fr1_lsk, ev_fr1S, ev_addrP, ev_addrL]))
local macro_rules | `(tactic| walk_at "d") => `(tactic| first
  | refine And.intro (by first | assumption | omega | exact mul_smallL (by omega) (by omega) | exact mul_small (by omega) (by omega) | exact divw (by omega) (by omega) | exact rg_of (by omega) (by omega) | exact RgOk.of_le (by omega) (by omega) (by omega) (by omega) | exact lenok (by first | omega | (simp only [List.length_map, List.length_append, List.length_cons, List.length_nil, List.length_take, List.length_drop]; omega))) ?_
  | refine ow (by first | assumption | (simp only [own, owns, List.append_nil, List.nil_append]; first | done | assumption)) ?_
  | refine ows (by first | assumption | exact owns_map_nil (fun _ => rfl) _ | exact owns_rows _) ?_
  | refine sz (by first | omega | (simp only [List.length_map, List.length_append, List.length_cons, List.length_nil, List.length_take, List.length_drop]; omega)) ?_
  | refine brT (by omega) ?_
  | refine brF (by omega) ?_)
local macro_rules | `(tactic| walk_at "go") => `(tactic| (try walk_at "w") <;> repeat (walk_at "d" <;> try walk_at "w"))

def sp_sides : DSp := fun ds Q _ => ∃ (fs : List Int) (q : Sq (fs.map .int)) (ms : List Mv), ds = [q.d, .tup (ms.map (mvD fs.length))] ∧ fs.length < 1000 ∧ Run fs ms ∧ ms.length < 1000 ∧ Unused fs ∧ Q (.bl true) [q.d, .tup (ms.map (mvD fs.length))]
theorem exc_moved {gs : List Int} {m : Mv} (N : Nx gs m) : ((exc gs).set m.s (nt (exc gs) m.s - m.c)).set (m.stop gs.length) (nt (exc gs) (m.stop gs.length) + m.c) = exc (app gs m) := by
  have ns := stop_ne N
  have hs := N.lt
  have ht := stop_lt N
  have l1 : ((exc gs).set m.s (nt (exc gs) m.s - m.c)).length = gs.length := by rw [List.length_set, exc_len]
  refine row_ext (by rw [List.length_set, l1, exc_len, app_len]) fun k hk => ?_
  rw [List.length_set, l1] at hk
  rw [exc_app N hk, nt_set (by omega), nt_set (by rw [exc_len]; exact hk)]
  by_cases a : k = m.stop gs.length
  · rw [if_pos a, if_neg (by omega), if_pos a, a]; omega
  · by_cases b : k = m.s
    · rw [if_neg a, if_pos b, if_pos b, if_neg a, b]; omega
    · rw [if_neg a, if_neg b, if_neg b, if_neg a]; omega
theorem word_sides : ∀ ds Qd Qx, sp_sides ds Qd Qx → w_law_sides_so sp_exc (Ends' ds Qd Qx) (entry N_law_sides_so ds) := by
  rintro ds Qd Qx ⟨fs, q, ms, rfl, hl, R, hm, U, h⟩
  have oq := owS q (owns_ints fs)
  have om := owns_mvs fs.length ms
  have oT : own (.tup (ms.map (mvD fs.length))) = [] := om
  unfold w_law_sides_so
  walk_at "go"
  refine ⟨fs, q, rfl, hl, fun p => ?_⟩
  walk_at "go"
  refine forMap (fun i ρ => ∃ (gs : List Int) (done rest : List Mv) (t3 t4 t5 t6 : Option D), done.length = i ∧ gs.length = fs.length ∧ Run gs rest ∧ ms = done ++ rest ∧ Unused gs ∧ ρ = [some q.d, some (.tup (ms.map (mvD fs.length))), some (.lst (some p) ((exc gs).map .int)), t3, t4, t5, t6, none]) ⟨fs, [], ms, none, none, none, none, rfl, rfl, R, rfl, U, rfl⟩ ?_ ?_
  · rintro i x ρ2 hx ⟨gs, done, rest, t3, t4, t5, t6, di, eg, R2, em, U2, rfl⟩
    have hx2 : rest = x :: rest.drop 1 := by
      rw [em, List.getElem?_append_right (by omega), di, Nat.sub_self] at hx
      cases rest with
      | nil => simp at hx
      | cons y r => rw [Option.some.inj (show some y = some x from hx)]; rfl
    generalize rest.drop 1 = rest' at hx2
    subst hx2
    obtain ⟨N, R3⟩ := run_cons R2
    have cp := N.c_pos
    have hs := N.lt
    have ht := stop_lt N
    have ns := stop_ne N
    have le := exc_len gs
    have mv := exc_moved N
    rw [eg] at cp ht ns mv
    walk_at "go"
    refine at_nt _ rfl (by omega) ?_
    walk_at "go"
    refine at_nt _ rfl (by omega) ?_
    walk_at "go"
    refine at_nt _ rfl (by omega) ?_
    walk_at "go"
    rw [ixN_nat (by omega)]
    walk_at "go"
    rw [← List.map_set]
    have l2 : ((exc gs).set x.s (nt (exc gs) x.s - x.c)).length = gs.length := by rw [List.length_set, exc_len]
    refine at_nt _ rfl (by omega) ?_
    rw [nt_set (by omega), if_neg (by omega)]
    walk_at "go"
    rw [ixN_nat (by omega)]
    walk_at "go"
    rw [← List.map_set, mv]
    exact ⟨app gs x, done ++ [x], rest', _, _, _, _, by rw [List.length_append, List.length_singleton]; omega, by rw [app_len]; exact eg, R3, by rw [List.append_assoc]; exact em, app_unused N U2, rfl⟩
  · rintro ρ2 ⟨gs, done, rest, t3, t4, t5, t6, di, eg, R2, em, U2, rfl⟩
    have er : rest = [] := by
      have := congrArg List.length em
      rw [List.length_append] at this
      exact List.length_eq_zero_iff.mp (by omega)
    subst er
    have z := done_zero (run_nil R2) U2
    have oe := owns_ints (exc gs)
    walk_at "go"
    refine lcMap (fun _ => true) (fun y : Int => .bl (decide (y = 0))) rfl ?_ ?_
    · intro i y hy
      have hi := lt_of_get hy
      rw [exc_len] at hi
      walk_at "go"
      exact lcYes hy (by rw [exc_len]; omega) rfl rfl rfl
    intro p2
    rw [filt_all, map_bl]
    have e1 : (exc gs).map (fun y => decide (y = 0)) = (exc gs).map fun _ => true := List.map_congr_left fun y hy => by
      obtain ⟨k, hk, rfl⟩ := List.mem_iff_getElem.mp hy
      rw [exc_len] at hk
      have e2 : (exc gs)[k]'(by rw [exc_len]; exact hk) = nt (exc gs) k := by
        have := nt_get (l := exc gs) (k := k) (by rw [exc_len]; exact hk)
        rw [List.getElem?_eq_getElem (by rw [exc_len]; exact hk)] at this
        exact Option.some.inj this
      rw [e2, exc_nt hk, z k hk]
      unfold pv
      split <;> rw [z _ (by omega)] <;> rfl
    rw [e1]
    walk_at "go"
    rw [show ((exc gs).map fun _ => true).all id = true by simp]
    exact finV oq (finV oT (fin0 h))
def sp_rf (CB CA : Addr) : DSp := fun ds Q _ => ∃ (fs : List Int) (q : Sq (fs.map .int)), ds = [q.d] ∧ fs.length < 1000 ∧ ((¬ Ring fs.length ∧ Q (.tup [.str "refused", .str "flows"]) [q.d]) ∨ (Ring fs.length ∧ 0 ∉ fs ∧ Q (.tup [.str "refused", .str "used"]) [q.d]))
theorem word_rf {CB CA : Addr} : ∀ ds Qd Qx, sp_rf CB CA ds Qd Qx → w_law_refused (sp_tm CB CA) CB CA (Ends' ds Qd Qx) (entry N_law_refused ds) := by
  rintro ds Qd Qx ⟨fs, q, rfl, hl, h⟩
  have oq := owS q (owns_ints fs)
  unfold w_law_refused
  walk_at "go"
  rcases h with ⟨z, h⟩ | ⟨z, z2, h⟩
  · refine ⟨fs, q, rfl, hl, .inl ⟨z, ?_⟩⟩
    walk_at "go"
    refine tryMiss (tryHit (ds := [.str "refused", .str "flows"]) rfl rfl (by show 2 ≤ 100000; decide) fun a => ?_)
    exact finV oq (fin0 h)
  · refine ⟨fs, q, rfl, hl, .inr (.inl ⟨z, z2, ?_⟩)⟩
    walk_at "go"
    refine tryHit (ds := [.str "refused", .str "used"]) rfl rfl (by show 2 ≤ 100000; decide) fun a => ?_
    exact finV oq (fin0 h)
theorem dat_mvs (n : Nat) (ms : List Mv) (h : ms.length < 100000) : Dat 2 (.tup (ms.map (mvD n))) := ⟨by rw [List.length_map]; exact h, fun d hd => by
  obtain ⟨x, _, rfl⟩ := List.mem_map.mp hd
  refine ⟨by show 4 < 100000; decide, fun e he => ?_⟩
  rcases List.mem_cons.mp he with rfl | he
  · exact True.intro
  rcases List.mem_cons.mp he with rfl | he
  · exact True.intro
  rcases List.mem_cons.mp he with rfl | he
  · exact True.intro
  rw [List.mem_singleton.mp he]; exact True.intro⟩
theorem dat_il (l : List Int) (h : l.length < 100000) : Dat 2 (.tup (l.map .int)) := ⟨by rw [List.length_map]; exact h, fun d hd => by
  obtain ⟨x, _, rfl⟩ := List.mem_map.mp hd
  exact True.intro⟩
theorem dat_2 (a b : Str) : Dat 2 (.tup [.str a, .str b]) := ⟨by show 2 < 100000; decide, fun e he => by
  rcases List.mem_cons.mp he with rfl | he
  · exact True.intro
  · rw [List.mem_singleton.mp he]; exact True.intro⟩
theorem at3x {x y z : D} {i : Int} {R : D → Prop} (h0 : 0 ≤ i) (h1 : i < 3) (q : ∀ d, d = x ∨ d = y ∨ d = z → Ev (R d)) : Ev (AtQ [x, y, z] i R) := at3 h0 h1 (fun _ => q x (.inl rfl)) (fun _ => q y (.inr (.inl rfl))) (fun _ => q z (.inr (.inr rfl)))
theorem word_law {CB CA : Addr} : ∀ ds Qd Qx, spLaw 63 ds Qd Qx → w_law sp_pool sp_take (sp_tm CB CA) (sp_same 3) sp_due sp_laid sp_sides (sp_rf CB CA) (Ends' ds Qd Qx) (entry N_law ds) := by
  rintro ds Qd Qx ⟨ns, rfl, hlen, h⟩
  have oS := owns_ints ns
  unfold w_law
  walk_at "go"
  refine ⟨ns, rfl, hlen, fun a d0 hp0 => ?_⟩
  obtain ⟨s0, rfl⟩ : ∃ s : PoolS a, d0 = s.d := ⟨⟨d0, hp0⟩, rfl⟩
  walk_at "go"
  refine take (by omega) (by omega) fun x s1 x0 x1 => ?_
  walk_at "go"
  refine atI2 x0 x1 fun m hm => ?_
  walk_at "go"
  refine take (by omega) (by omega) fun y s2 y0 y1 => ?_
  obtain ⟨n, en⟩ : ∃ n : Nat, (n : Int) = 2 + y := ⟨(2 + y).toNat, by omega⟩
  walk_at "go"
  rw [← en]
  have rg : Ring n := by unfold Ring; omega
  have rg2 := rg
  unfold Ring at rg2
  refine take (by omega) (by omega) fun z s3 z0 z1 => ?_
  walk_at "go"
  refine atI3 z0 z1 fun top ht => ?_
  walk_at "go"
  refine lcS (fun i acc ρ' => ∃ (fs : List Int) (s4 : PoolS a), fs.length = i ∧ acc = fs.map .int ∧ ρ' = [some (.lsk (ns.map .int)), some s4.d, some (.int (n : Int)), some (.int top), none, none, none, none]) ⟨[], s3, rfl, rfl, rfl⟩ ?_ ?_
  · rintro i d acc ρ2 hd ⟨fs, s4, hi, rfl, rfl⟩
    have hi := lt_of_get hd
    rw [iseq_len] at hi
    walk_at "go"
    refine take (by omega) (by omega) fun u s5 u0 u1 => ?_
    walk_at "go"
    refine br (fun c => ?_) (fun c => ?_)
    · walk_at "go"
      refine take (by omega) (by omega) fun v s6 v0 v1 => ?_
      walk_at "go"
      exact ⟨fs ++ [v - top], s6, by simp; omega, by rw [List.map_append]; rfl, rfl⟩
    · walk_at "go"
      exact ⟨fs ++ [0], s5, by simp; omega, by rw [List.map_append]; rfl, rfl⟩
  rintro acc ρ2 ⟨fs0, s4, hl, rfl, rfl⟩ p
  rw [iseq_len] at hl
  walk_at "go"
  refine take (by omega) (by omega) fun u s5 u0 u1 => ?_
  obtain ⟨k, rfl⟩ : ∃ k : Nat, u = k := ⟨u.toNat, by omega⟩
  walk_at "go"
  refine setIxE k rfl (by rw [List.length_map]; omega) rfl ?_
  obtain ⟨fs, efs⟩ : ∃ fs, fs = fs0.set k 0 := ⟨_, rfl⟩
  have lf : fs.length = n := by rw [efs, List.length_set]; omega
  have U : Unused fs := ⟨k, by omega, by rw [efs, nt_set (by omega), if_pos rfl]⟩
  have U0 : 0 ∈ fs := by
    obtain ⟨j, j1, j2⟩ := U
    rw [← j2]
    exact List.mem_of_getElem? (nt_get j1)
  obtain ⟨ms, R, hm⟩ := run_ex (mu fs) fs (Nat.le_refl _)
  have few := mu_few U
  have oF := owns_ints fs
  have oM := owns_mvs n ms
  show Ev (sSeq _ _ _ ([some (.lsk (ns.map .int)), some s5.d, some (.int (n : Int)), some (.int top), some (.lst (some p) ((fs0.map D.int).set k (.int 0))), none, none, none] : DL.Env))
  rw [← List.map_set, ← efs]
  walk_at "go"
  have lD : (ms.map (mvD n)).length = ms.length := List.length_map _
  refine ⟨fs, ⟨_, .inl rfl⟩, rfl, by omega, .inr (.inr ⟨by rw [lf]; exact rg, U0, ms, R, by omega, ?_⟩)⟩
  rw [lf]
  walk_at "go"
  refine ⟨fs, ⟨_, .inr rfl⟩, ms, rfl, by omega, R, by omega, ?_⟩
  rw [lf]
  walk_at "go"
  refine ⟨_, rfl, dat_mvs n ms (by omega), ?_⟩
  walk_at "go"
  refine ⟨fs, ⟨_, .inr rfl⟩, ms, by rw [lf], by omega, R, by omega, U, ?_⟩
  rw [lf]
  walk_at "go"
  refine ⟨_, rfl, dat_il fs (by omega), ?_⟩
  walk_at "go"
  refine ⟨fs, ⟨_, .inr rfl⟩, ms, by rw [lf], by omega, R, by omega, U, ?_⟩
  rw [lf]
  walk_at "go"
  refine lcMap (fun _ => true) (fun y : Int => .int (if y = 0 then 1 else y)) rfl ?_ ?_
  · intro i y hy
    have hi := lt_of_get hy
    walk_at "go"
    refine br (fun c => ?_) (fun c => ?_)
    · walk_at "go"
      exact lcYes hy (by omega) rfl (by rw [if_pos c]) rfl
    · walk_at "go"
      exact lcYes hy (by omega) rfl (by rw [if_neg c]) rfl
  intro p2
  rw [filt_all, map_int]
  obtain ⟨fu, efu⟩ : ∃ fu, fu = fs.map fun y => if y = 0 then 1 else y := ⟨_, rfl⟩
  rw [← efu]
  have lu : fu.length = n := by rw [efu, List.length_map, lf]
  have nu : 0 ∉ fu := by
    rw [efu, List.mem_map]
    rintro ⟨y, _, e⟩
    split at e <;> omega
  have oU := owns_ints fu
  walk_at "go"
  refine ⟨fu, ⟨_, .inr rfl⟩, rfl, by omega, .inr ⟨by rw [lu]; exact rg, nu, ?_⟩⟩
  walk_at "go"
  refine ⟨_, rfl, (dat_2 _ _), ?_⟩
  walk_at "go"
  intro p3
  intro p4 p5
  refine ⟨by decide, by decide, sz (by decide) fun p6 => ?_⟩
  rw [rep_flat, show List.replicate (Int.toNat 25) (D.int 0) = (List.replicate 25 (0 : Int)).map .int from rfl]
  have o25 := owns_ints (List.replicate 25 0)
  have o1 : owns [D.int 0] = [] := rfl
  have o0 : owns ([] : List D) = [] := rfl
  walk_at "go"
  refine take (by omega) (by omega) fun w s6 w0 w1 => ?_
  walk_at "go"
  refine at3x w0 w1 fun d hd => ?_
  obtain ⟨fl, lfl, lf2, rfl⟩ : ∃ fl : List Int, ¬ Ring fl.length ∧ fl.length < 1000 ∧ d = ilD fl := by
    rcases hd with rfl | rfl | rfl
    · exact ⟨[0], by unfold Ring; decide, by decide, rfl⟩
    · exact ⟨[], by unfold Ring; decide, by decide, rfl⟩
    · exact ⟨List.replicate 25 0, by unfold Ring; decide, by decide, rfl⟩
  clear hd
  have ofl := owns_ints fl
  walk_at "go"
  refine ⟨fl, ⟨_, .inr rfl⟩, rfl, lf2, .inl ⟨lfl, ?_⟩⟩
  walk_at "go"
  refine ⟨_, rfl, dat_2 _ _, ?_⟩
  walk_at "go"
  exact finV oS (fin0 (h _))
end Qk68
set_option Elab.async false
set_option linter.all false
set_option maxRecDepth 100000
namespace Qk68
open PySem PySem.Spec PyProof.Rows L2 DL
/-! ### the text -/
def topS (i : Nat) : Stmt := PySem.Challenge.pw_quaybest_k68_moves.main.body.getD i (.Pass ⟨0, 0, 0, 0⟩)
abbrev s_is_ring : Stmt := topS 7
abbrev scope_is_ring : Scope := defScope s_is_ring
theorem sc_is_ring : FnScope N_is_ring ["rows"] scope_is_ring := ⟨rfl, rfl, rfl, by decide +kernel, rfl, by decide +kernel, by decide +kernel⟩
abbrev s_excesses : Stmt := topS 8
abbrev scope_excesses : Scope := defScope s_excesses
theorem sc_excesses : FnScope N_excesses ["flows"] scope_excesses := ⟨rfl, rfl, rfl, by decide +kernel, rfl, by decide +kernel, by decide +kernel⟩
abbrev s_next_move : Stmt := topS 9
abbrev scope_next_move : Scope := defScope s_next_move
theorem sc_next_move : FnScope N_next_move ["flows"] scope_next_move := ⟨rfl, rfl, rfl, by decide +kernel, rfl, by decide +kernel, by decide +kernel⟩
abbrev s_to_moves : Stmt := topS 10
abbrev scope_to_moves : Scope := defScope s_to_moves
theorem sc_to_moves : FnScope N_to_moves ["flows"] scope_to_moves := ⟨rfl, rfl, rfl, by decide +kernel, rfl, by decide +kernel, by decide +kernel⟩
abbrev s_law_pool : Stmt := topS 12
abbrev scope_law_pool : Scope := defScope s_law_pool
theorem sc_law_pool : FnScope N_law_pool ["script"] scope_law_pool := ⟨rfl, rfl, rfl, by decide +kernel, rfl, by decide +kernel, by decide +kernel⟩
abbrev s_law_take : Stmt := topS 13
abbrev scope_law_take : Scope := defScope s_law_take
theorem sc_law_take : FnScope N_law_take ["pool", "many"] scope_law_take := ⟨rfl, rfl, rfl, by decide +kernel, rfl, by decide +kernel, by decide +kernel⟩
abbrev s_law_is_integer : Stmt := topS 14
abbrev scope_law_is_integer : Scope := defScope s_law_is_integer
theorem sc_law_is_integer : FnScope N_law_is_integer ["actual"] scope_law_is_integer := ⟨rfl, rfl, rfl, by decide +kernel, rfl, by decide +kernel, by decide +kernel⟩
abbrev s_law_same : Stmt := topS 15
abbrev scope_law_same : Scope := defScope s_law_same
theorem sc_law_same : FnScope N_law_same ["actual", "due"] scope_law_same := ⟨rfl, rfl, rfl, by decide +kernel, rfl, by decide +kernel, by decide +kernel⟩
abbrev s_law_excesses : Stmt := topS 16
abbrev scope_law_excesses : Scope := defScope s_law_excesses
theorem sc_law_excesses : FnScope N_law_excesses ["flows"] scope_law_excesses := ⟨rfl, rfl, rfl, by decide +kernel, rfl, by decide +kernel, by decide +kernel⟩
abbrev s_law_laid : Stmt := topS 17
abbrev scope_law_laid : Scope := defScope s_law_laid
theorem sc_law_laid : FnScope N_law_laid ["flows", "moves"] scope_law_laid := ⟨rfl, rfl, rfl, by decide +kernel, rfl, by decide +kernel, by decide +kernel⟩
abbrev s_law_due : Stmt := topS 18
abbrev scope_law_due : Scope := defScope s_law_due
theorem sc_law_due : FnScope N_law_due ["flows"] scope_law_due := ⟨rfl, rfl, rfl, by decide +kernel, rfl, by decide +kernel, by decide +kernel⟩
abbrev s_law_sides_so : Stmt := topS 19
abbrev scope_law_sides_so : Scope := defScope s_law_sides_so
theorem sc_law_sides_so : FnScope N_law_sides_so ["flows", "moves"] scope_law_sides_so := ⟨rfl, rfl, rfl, by decide +kernel, rfl, by decide +kernel, by decide +kernel⟩
abbrev s_law_refused : Stmt := topS 20
abbrev scope_law_refused : Scope := defScope s_law_refused
theorem sc_law_refused : FnScope N_law_refused ["flows"] scope_law_refused := ⟨rfl, rfl, rfl, by decide +kernel, rfl, by decide +kernel, by decide +kernel⟩
abbrev s_law : Stmt := topS 21
abbrev scope_law : Scope := defScope s_law
theorem sc_law : FnScope N_law ["script"] scope_law := ⟨rfl, rfl, rfl, by decide +kernel, rfl, by decide +kernel, by decide +kernel⟩
section
variable {P : Program} {w : World} {K : PySem.W.Frag} {mg : Str → Option Value} {base : Heap}
theorem ok_is_ring {f : Addr} {fd : FuncData} {k : Nat} (F : Fun K "is_ring" "is_ring" s_is_ring f fd) (m_len : mg "len" = none)
    {v_FEWEST_PORTS : V} {u_FEWEST_PORTS : Value} (c_FEWEST_PORTS : mg "FEWEST_PORTS" = some u_FEWEST_PORTS) (r_FEWEST_PORTS : RelV v_FEWEST_PORTS u_FEWEST_PORTS) (e_FEWEST_PORTS : ∀ Z H, Rep K Z H (.int 2) v_FEWEST_PORTS)
    {v_MOST_PORTS : V} {u_MOST_PORTS : Value} (c_MOST_PORTS : mg "MOST_PORTS" = some u_MOST_PORTS) (r_MOST_PORTS : RelV v_MOST_PORTS u_MOST_PORTS) (e_MOST_PORTS : ∀ Z H, Rep K Z H (.int 24) v_MOST_PORTS)
    {sp : DSp} (len : ∀ ds Qd Qx, sp ds Qd Qx → ds.length = 1) (word : ∀ ds Qd Qx, sp ds Qd Qx → w_is_ring  { nx := fun ρ' => fin ds ρ' (Qd .non), rt := fun d ρ' => fin ds ρ' (Qd d), xx := fun x ρ' => fin ds ρ' (Qx x) } (entry N_is_ring ds)) :
    FnOk P w K mg base (L2.CX P w) (k + 1) f fd ["rows"] (lift K sp) :=
  fn_D F sc_is_ring (fun cdv A outer s H E hr => by
    have scnd := sc_is_ring.nd
    exact (dss_one (ds_ret (de_pure (dp_chain dop_le dop_le (dp_glob rfl c_FEWEST_PORTS r_FEWEST_PORTS e_FEWEST_PORTS) (dp_len (dp_var 0) rfl m_len) (dp_glob rfl c_MOST_PORTS r_MOST_PORTS e_MOST_PORTS)))))) len word
theorem ok_excesses {f : Addr} {fd : FuncData} {k : Nat} (F : Fun K "excesses" "excesses" s_excesses f fd) (m_enumerate : mg "enumerate" = none)
    {sp : DSp} (len : ∀ ds Qd Qx, sp ds Qd Qx → ds.length = 1) (word : ∀ ds Qd Qx, sp ds Qd Qx → w_excesses  { nx := fun ρ' => fin ds ρ' (Qd .non), rt := fun d ρ' => fin ds ρ' (Qd d), xx := fun x ρ' => fin ds ρ' (Qx x) } (entry N_excesses ds)) :
    FnOk P w K mg base (L2.CX P w) (k + 1) f fd ["flows"] (lift K sp) :=
  fn_D F sc_excesses (fun cdv A outer s H E hr => by
    have scnd := sc_excesses.nd
    exact (dss_one (ds_ret (de_lc rfl scnd (di_enumS (de_pure (dp_var 0)) rfl m_enumerate) (own' := [("port", 1), ("flow", 2)]) (blkOk_by (N := N_excesses) (sc := scope_excesses) (by decide +kernel)) (fun _ _ _ _ _ => (dg_tup rfl (dgs_cons (dg_name scnd rfl (by first | exact .inl rfl | exact .inr rfl)) (dgs_cons (dg_name scnd rfl (by first | exact .inl rfl | exact .inr rfl)) dgs_nil)))) (fun _ _ _ _ _ => dts_nil) (fun _ _ _ _ _ => (de_pure (dp_op dop_sub (dp_var 2) (dp_ix (dp_var 0) (dp_op dop_sub (dp_var 1) dp_int) (fun _ _ => rfl))))))))) len word
theorem ok_next_move {f : Addr} {fd : FuncData} {k : Nat} (F : Fun K "next_move" "next_move" s_next_move f fd) {f_excesses : Addr} {fd_excesses : FuncData} {k_excesses : Nat} {sp_excesses : DSp} (G_excesses : FnOk P w K mg base (L2.CX P w) k_excesses f_excesses fd_excesses ["flows"] (lift K sp_excesses)) (g_excesses : mg "excesses" = some (.ref f_excesses)) (kp_excesses : PySem.W.keepIn K (.ref f_excesses) = true) (b_excesses : Binds K fd_excesses ["flows"] []) (h_excesses : k_excesses ≤ k)
    (m_abs : mg "abs" = none)
    (m_len : mg "len" = none)
    (m_min : mg "min" = none)
    (m_range : mg "range" = none)
    {sp : DSp} (len : ∀ ds Qd Qx, sp ds Qd Qx → ds.length = 1) (word : ∀ ds Qd Qx, sp ds Qd Qx → w_next_move sp_excesses { nx := fun ρ' => fin ds ρ' (Qd .non), rt := fun d ρ' => fin ds ρ' (Qd d), xx := fun x ρ' => fin ds ρ' (Qx x) } (entry N_next_move ds)) :
    FnOk P w K mg base (L2.CX P w) (k + 1) f fd ["flows"] (lift K sp) :=
  fn_D F sc_next_move (fun cdv A outer s H E hr => by
    have scnd := sc_next_move.nd
    have hr_excesses := hr.mono h_excesses
    exact (dss_cons (ds_set scnd rfl (by first | exact .inl rfl | exact .inr rfl) (de_pure (dp_len (dp_var 0) rfl m_len)))
      (dss_cons (ds_set scnd rfl (by first | exact .inl rfl | exact .inr rfl) (de_call G_excesses hr_excesses rfl g_excesses kp_excesses b_excesses (takes_of rfl rfl rfl rfl) (da_val (de_pure (dp_var 0)) da_nil)))
      (dss_cons (ds_setLc rfl scnd rfl rfl (sw_true rfl rfl rfl (by decide +kernel)) (di_rng1 (da_val (de_pure (dp_var 1)) da_nil) rfl m_range) (own' := [("port", 4)]) (blkOk_by (N := N_next_move) (sc := scope_next_move) (by decide +kernel)) (fun _ _ _ _ _ => (dg_name scnd rfl (by first | exact .inl rfl | exact .inr rfl))) (fun _ _ _ _ _ => (dts_one (dt_cmpP dop_gt (dp_ix (dp_var 2) (dp_var 4) (fun _ _ => rfl)) dp_int (nomark _)))) (fun _ _ _ _ _ => (de_pure (dp_var 4))))
      (dss_cons (ds_if (dt_not (dt_truP (dp_var 3))) (dss_one (ds_ret (de_pure dp_non))) dss_nil)
      (dss_cons (ds_set scnd rfl (by first | exact .inl rfl | exact .inr rfl) (de_pure (dp_ix (dp_var 3) dp_int (fun _ _ => rfl))))
      (dss_cons (ds_set scnd rfl (by first | exact .inl rfl | exact .inr rfl) (de_if (dt_cmpP dop_gt (dp_ix (dp_var 0) (dp_var 5) (fun _ _ => rfl)) dp_int (nomark _)) (de_pure dp_int) (de_pure (dp_neg dp_int))))
      (dss_cons (ds_set scnd rfl (by first | exact .inl rfl | exact .inr rfl) (de_pure (dp_var 5)))
      (dss_cons (ds_set scnd rfl (by first | exact .inl rfl | exact .inr rfl) (de_lst da_nil))
      (dss_cons (ds_while (passes_of rfl) (dt_cmpP dop_ge (dp_ix (dp_var 2) (dp_var 7) (fun _ _ => rfl)) dp_int (nomark _)) (dss_cons (ds_expr (de_append (dl_var 8) (de_if (dt_cmpP dop_eq (dp_var 6) dp_int (nomark _)) (de_pure (dp_var 7)) (de_pure (dp_op dop_mod (dp_op dop_sub (dp_var 7) dp_int) (dp_var 1))))))
      (dss_one (ds_set scnd rfl (by first | exact .inl rfl | exact .inr rfl) (de_pure (dp_op dop_mod (dp_op dop_add (dp_var 7) (dp_var 6)) (dp_var 1)))))))
      (dss_cons (ds_set scnd rfl (by first | exact .inl rfl | exact .inr rfl) (de_callB (dc_min3 rfl) rfl m_min (by decide +kernel) (da_val (de_pure (dp_ix (dp_var 2) (dp_var 5) (fun _ _ => rfl))) (da_val (de_pure (dp_neg (dp_ix (dp_var 2) (dp_var 7) (fun _ _ => rfl)))) (da_val (de_callB dc_abs rfl m_abs (by decide +kernel) (da_val (de_pure (dp_ix (dp_var 0) (dp_ix (dp_var 8) dp_int (fun _ _ => rfl)) (fun _ _ => rfl))) da_nil)) da_nil)))))
      (dss_one (ds_ret (de_tup (da_val (de_tup (da_val (de_pure (dp_var 5)) (da_val (de_if (dt_cmpP dop_eq (dp_var 6) dp_int (nomark _)) (de_pure dp_str) (de_pure dp_str)) (da_val (de_pure (dp_var 7)) (da_val (de_pure (dp_var 9)) da_nil))))) (da_val (de_frz 8) da_nil)))))))))))))))) len word
theorem ok_to_moves {f : Addr} {fd : FuncData} {k : Nat} (F : Fun K "to_moves" "to_moves" s_to_moves f fd) {f_is_ring : Addr} {fd_is_ring : FuncData} {k_is_ring : Nat} {sp_is_ring : DSp} (G_is_ring : FnOk P w K mg base (L2.CX P w) k_is_ring f_is_ring fd_is_ring ["rows"] (lift K sp_is_ring)) (g_is_ring : mg "is_ring" = some (.ref f_is_ring)) (kp_is_ring : PySem.W.keepIn K (.ref f_is_ring) = true) (b_is_ring : Binds K fd_is_ring ["rows"] []) (h_is_ring : k_is_ring ≤ k)
    {f_next_move : Addr} {fd_next_move : FuncData} {k_next_move : Nat} {sp_next_move : DSp} (G_next_move : FnOk P w K mg base (L2.CX P w) k_next_move f_next_move fd_next_move ["flows"] (lift K sp_next_move)) (g_next_move : mg "next_move" = some (.ref f_next_move)) (kp_next_move : PySem.W.keepIn K (.ref f_next_move) = true) (b_next_move : Binds K fd_next_move ["flows"] []) (h_next_move : k_next_move ≤ k)
    (m_list : mg "list" = none)
    (m_tuple : mg "tuple" = none)
    {C_BadFlows : Addr} (q_BadFlows : PySem.W.excIn K C_BadFlows [.type "ValueError", .type "Exception", .type "BaseException", .type "object"] "ValueError.__new__" = true) (gC_BadFlows : mg "BadFlows" = some (.ref C_BadFlows)) (kC_BadFlows : PySem.W.keepIn K (.ref C_BadFlows) = true) (eC_BadFlows : PySem.W.subIn K (.ref C_BadFlows) (.type "BaseException") = some true) (tC_BadFlows : PySem.W.typeIn K (.ref C_BadFlows) = some (.type "type"))
    {C_AllUsed : Addr} (q_AllUsed : PySem.W.excIn K C_AllUsed [.type "ValueError", .type "Exception", .type "BaseException", .type "object"] "ValueError.__new__" = true) (gC_AllUsed : mg "AllUsed" = some (.ref C_AllUsed)) (kC_AllUsed : PySem.W.keepIn K (.ref C_AllUsed) = true) (eC_AllUsed : PySem.W.subIn K (.ref C_AllUsed) (.type "BaseException") = some true) (tC_AllUsed : PySem.W.typeIn K (.ref C_AllUsed) = some (.type "type"))
    {sp : DSp} (len : ∀ ds Qd Qx, sp ds Qd Qx → ds.length = 1) (word : ∀ ds Qd Qx, sp ds Qd Qx → w_to_moves sp_is_ring sp_next_move C_BadFlows C_AllUsed { nx := fun ρ' => fin ds ρ' (Qd .non), rt := fun d ρ' => fin ds ρ' (Qd d), xx := fun x ρ' => fin ds ρ' (Qx x) } (entry N_to_moves ds)) :
    FnOk P w K mg base (L2.CX P w) (k + 1) f fd ["flows"] (lift K sp) :=
  fn_D F sc_to_moves (fun cdv A outer s H E hr => by
    have scnd := sc_to_moves.nd
    have hr_is_ring := hr.mono h_is_ring
    have hr_next_move := hr.mono h_next_move
    exact (dss_cons (ds_if (dt_not (dt_tru (de_call G_is_ring hr_is_ring rfl g_is_ring kp_is_ring b_is_ring (takes_of rfl rfl rfl rfl) (da_val (de_pure (dp_var 0)) da_nil)))) (dss_one (ds_raise0 rfl (takes_of rfl rfl rfl rfl) q_BadFlows gC_BadFlows kC_BadFlows eC_BadFlows tC_BadFlows rfl)) dss_nil)
      (dss_cons (ds_if (dt_cmpP dop_notin dp_int (dp_var 0) (by with_unfolding_all rfl)) (dss_one (ds_raise0 rfl (takes_of rfl rfl rfl rfl) q_AllUsed gC_AllUsed kC_AllUsed eC_AllUsed tC_AllUsed rfl)) dss_nil)
      (dss_cons (ds_set scnd rfl (by first | exact .inl rfl | exact .inr rfl) (de_listP (dp_var 0) rfl m_list (by decide +kernel)))
      (dss_cons (ds_set scnd rfl (by first | exact .inl rfl | exact .inr rfl) (de_lst da_nil))
      (dss_cons (ds_set scnd rfl (by first | exact .inl rfl | exact .inr rfl) (de_call (FnOk.bor G_next_move) hr_next_move rfl g_next_move kp_next_move b_next_move (takes_of rfl rfl rfl rfl) (da_lend (dl_var 1) da_nil)))
      (dss_cons (ds_while (passes_of rfl) (dt_cmpP dop_notN (dp_var 3) dp_non (nomark _)) (dss_cons (ds_asg (de_pure (dp_var 3)) (dg_tup rfl (dgs_cons (dg_name scnd rfl (by first | exact .inl rfl | exact .inr rfl)) (dgs_cons (dg_name scnd rfl (by first | exact .inl rfl | exact .inr rfl)) dgs_nil))))
      (dss_cons (ds_expr (de_append (dl_var 2) (de_pure (dp_var 4))))
      (dss_cons (ds_for (passes_of rfl) rfl (di_list (de_frz 5)) (dg_name scnd rfl (by first | exact .inl rfl | exact .inr rfl)) (dss_one (ds_augix (dl_var 1) (dp_var 6) (de_if (dt_cmpP dop_eq (dp_ix (dp_var 4) dp_int (fun _ _ => rfl)) dp_str (nomark _)) (de_pure (dp_ix (dp_var 4) dp_int (fun _ _ => rfl))) (de_pure (dp_neg (dp_ix (dp_var 4) dp_int (fun _ _ => rfl))))) ip_sub)))
      (dss_one (ds_set scnd rfl (by first | exact .inl rfl | exact .inr rfl) (de_call (FnOk.bor G_next_move) hr_next_move rfl g_next_move kp_next_move b_next_move (takes_of rfl rfl rfl rfl) (da_lend (dl_var 1) da_nil))))))))
      (dss_one (ds_ret (de_tupP (dp_var 2) rfl m_tuple (by decide +kernel))))))))))) len word
theorem ok_law_pool {f : Addr} {fd : FuncData} {k : Nat} (F : Fun K "_law_pool" "_law_pool" s_law_pool f fd) 
    {sp : DSp} (len : ∀ ds Qd Qx, sp ds Qd Qx → ds.length = 1) (word : ∀ ds Qd Qx, sp ds Qd Qx → w_law_pool  { nx := fun ρ' => fin ds ρ' (Qd .non), rt := fun d ρ' => fin ds ρ' (Qd d), xx := fun x ρ' => fin ds ρ' (Qx x) } (entry N_law_pool ds)) :
    FnOk P w K mg base (L2.CX P w) (k + 1) f fd ["script"] (lift K sp) :=
  fn_D F sc_law_pool (fun cdv A outer s H E hr => by
    have scnd := sc_law_pool.nd
    exact (dss_one (ds_ret (de_lst (da_val (de_lc rfl scnd (di_seq (de_pure (dp_var 0))) (own' := [("cell", 1)]) (blkOk_by (N := N_law_pool) (sc := scope_law_pool) (by decide +kernel)) (fun _ _ _ _ _ => (dg_name scnd rfl (by first | exact .inl rfl | exact .inr rfl))) (fun _ _ _ _ _ => dts_nil) (fun _ _ _ _ _ => (de_if (dt_cmpP dop_ge (dp_var 1) dp_int (nomark _)) (de_pure (dp_op dop_mul dp_int (dp_var 1))) (de_pure (dp_op dop_sub (dp_op dop_mul (dp_neg dp_int) (dp_var 1)) dp_int))))) (da_val (de_pure dp_int) (da_val (de_pure dp_int) (da_val (de_pure dp_int) da_nil)))))))) len word
theorem ok_law_take {f : Addr} {fd : FuncData} {k : Nat} (F : Fun K "_law_take" "_law_take" s_law_take f fd) {f_law_take : Addr} {fd_law_take : FuncData} {k_law_take : Nat} {sp_law_take : DSp} (G_law_take : FnOk P w K mg base (L2.CX P w) k_law_take f_law_take fd_law_take ["pool", "many"] (lift K sp_law_take)) (g_law_take : mg "_law_take" = some (.ref f_law_take)) (kp_law_take : PySem.W.keepIn K (.ref f_law_take) = true) (b_law_take : Binds K fd_law_take ["pool", "many"] []) (h_law_take : k_law_take ≤ k)
    (m_int : mg "int" = none)
    (m_len : mg "len" = none)
    {sp : DSp} (len : ∀ ds Qd Qx, sp ds Qd Qx → ds.length = 2) (word : ∀ ds Qd Qx, sp ds Qd Qx → w_law_take sp_law_take { nx := fun ρ' => fin ds ρ' (Qd .non), rt := fun d ρ' => fin ds ρ' (Qd d), xx := fun x ρ' => fin ds ρ' (Qx x) } (entry N_law_take ds)) :
    FnOk P w K mg base (L2.CX P w) (k + 1) f fd ["pool", "many"] (lift K sp) :=
  fn_D F sc_law_take (fun cdv A outer s H E hr => by
    have scnd := sc_law_take.nd
    have hr_law_take := hr.mono h_law_take
    exact (dss_cons (ds_if (dt_cmpP dop_gt (dp_ix (dp_var 0) dp_int (fun _ _ => rfl)) dp_int (nomark _)) (dss_cons (ds_set scnd rfl (by first | exact .inl rfl | exact .inr rfl) (de_op dop_mod (de_callTy dc_int rfl m_int (by decide +kernel) (da_val (de_pure (dp_ix (dp_var 0) dp_int (fun _ _ => rfl))) da_nil)) (de_pure (dp_var 1))))
      (dss_cons (ds_setix (de_pure (dp_op dop_fdiv (dp_ix (dp_var 0) dp_int (fun _ _ => rfl)) (dp_var 1))) (dl_var 0) dp_int rfl rfl rfl (fun ho hi hs => pg_sub ho hi hs))
      (dss_one (ds_ret (de_pure (dp_var 2)))))) dss_nil)
      (dss_cons (ds_set scnd rfl (by first | exact .inl rfl | exact .inr rfl) (de_pure dp_int))
      (dss_cons (ds_if (dt_cmpP dop_lt (dp_ix (dp_var 0) dp_int (fun _ _ => rfl)) (dp_len (dp_ix (dp_var 0) dp_int (fun _ _ => rfl)) rfl m_len) (nomark _)) (dss_one (ds_set scnd rfl (by first | exact .inl rfl | exact .inr rfl) (de_pure (dp_ix (dp_ix (dp_var 0) dp_int (fun _ _ => rfl)) (dp_ix (dp_var 0) dp_int (fun _ _ => rfl)) (fun _ _ => rfl))))) dss_nil)
      (dss_cons (ds_setix (de_pure (dp_op dop_add (dp_ix (dp_var 0) dp_int (fun _ _ => rfl)) dp_int)) (dl_var 0) dp_int rfl rfl rfl (fun ho hi hs => pg_sub ho hi hs))
      (dss_cons (ds_if (dt_cmpP dop_ge (dp_var 3) (dp_op dop_pow dp_int dp_int) (nomark _)) (dss_cons (ds_setix (de_pure (dp_op dop_fdiv (dp_var 3) dp_int)) (dl_var 0) dp_int rfl rfl rfl (fun ho hi hs => pg_sub ho hi hs))
      (dss_one (ds_ret (de_call G_law_take hr_law_take rfl g_law_take kp_law_take b_law_take (takes_of rfl rfl rfl rfl) (da_lend (dl_var 0) (da_val (de_pure (dp_var 1)) da_nil)))))) dss_nil)
      (dss_cons (ds_setix (de_op dop_mod (de_callTy dc_int rfl m_int (by decide +kernel) (da_val (de_pure (dp_op dop_add (dp_op dop_add (dp_op dop_mul (dp_ix (dp_var 0) dp_int (fun _ _ => rfl)) dp_int) (dp_op dop_mul (dp_var 3) dp_int)) (dp_op dop_mul (dp_ix (dp_var 0) dp_int (fun _ _ => rfl)) dp_int))) da_nil)) (de_pure dp_int)) (dl_var 0) dp_int rfl rfl rfl (fun ho hi hs => pg_sub ho hi hs))
      (dss_cons (ds_set scnd rfl (by first | exact .inl rfl | exact .inr rfl) (de_op dop_mod (de_callTy dc_int rfl m_int (by decide +kernel) (da_val (de_pure (dp_op dop_add (dp_op dop_add (dp_op dop_mul (dp_ix (dp_var 0) dp_int (fun _ _ => rfl)) (dp_ix (dp_var 0) dp_int (fun _ _ => rfl))) (dp_op dop_mul (dp_ix (dp_var 0) dp_int (fun _ _ => rfl)) dp_int)) dp_int)) da_nil)) (de_pure dp_int)))
      (dss_one (ds_ret (de_op dop_mod (de_callTy dc_int rfl m_int (by decide +kernel) (da_val (de_pure (dp_op dop_fdiv (dp_var 4) dp_int)) da_nil)) (de_pure (dp_var 1))))))))))))) len word
theorem ok_law_is_integer {f : Addr} {fd : FuncData} {k : Nat} (F : Fun K "_law_is_integer" "_law_is_integer" s_law_is_integer f fd) (m_bool : mg "bool" = none)
    (m_int : mg "int" = none)
    (m_isinstance : mg "isinstance" = none)
    {sp : DSp} (len : ∀ ds Qd Qx, sp ds Qd Qx → ds.length = 1) (word : ∀ ds Qd Qx, sp ds Qd Qx → w_law_is_integer  { nx := fun ρ' => fin ds ρ' (Qd .non), rt := fun d ρ' => fin ds ρ' (Qd d), xx := fun x ρ' => fin ds ρ' (Qx x) } (entry N_law_is_integer ds)) :
    FnOk P w K mg base (L2.CX P w) (k + 1) f fd ["actual"] (lift K sp) :=
  fn_D F sc_law_is_integer (fun cdv A outer s H E hr => by
    have scnd := sc_law_is_integer.nd
    exact (dss_one (ds_ret (de_and (de_callB dc_isi rfl m_isinstance (by decide +kernel) (da_val (de_pure (dp_var 0)) (da_val (de_pure (dp_type rfl m_int (by decide +kernel))) da_nil))) (de_one (de_not (de_callB dc_isi rfl m_isinstance (by decide +kernel) (da_val (de_pure (dp_var 0)) (da_val (de_pure (dp_type rfl m_bool (by decide +kernel))) da_nil))))))))) len word
theorem ok_law_same {f : Addr} {fd : FuncData} {k : Nat} (F : Fun K "_law_same" "_law_same" s_law_same f fd) {f_law_same : Addr} {fd_law_same : FuncData} {k_law_same : Nat} {sp_law_same : DSp} (G_law_same : FnOk P w K mg base (L2.CX P w) k_law_same f_law_same fd_law_same ["actual", "due"] (lift K sp_law_same)) (g_law_same : mg "_law_same" = some (.ref f_law_same)) (kp_law_same : PySem.W.keepIn K (.ref f_law_same) = true) (b_law_same : Binds K fd_law_same ["actual", "due"] []) (h_law_same : k_law_same ≤ k)
    {f_law_is_integer : Addr} {fd_law_is_integer : FuncData} {k_law_is_integer : Nat} {sp_law_is_integer : DSp} (G_law_is_integer : FnOk P w K mg base (L2.CX P w) k_law_is_integer f_law_is_integer fd_law_is_integer ["actual"] (lift K sp_law_is_integer)) (g_law_is_integer : mg "_law_is_integer" = some (.ref f_law_is_integer)) (kp_law_is_integer : PySem.W.keepIn K (.ref f_law_is_integer) = true) (b_law_is_integer : Binds K fd_law_is_integer ["actual"] []) (h_law_is_integer : k_law_is_integer ≤ k)
    (m_all : mg "all" = none)
    (m_bool : mg "bool" = none)
    (m_isinstance : mg "isinstance" = none)
    (m_len : mg "len" = none)
    (m_list : mg "list" = none)
    (m_range : mg "range" = none)
    (m_str : mg "str" = none)
    (m_tuple : mg "tuple" = none)
    {sp : DSp} (len : ∀ ds Qd Qx, sp ds Qd Qx → ds.length = 2) (word : ∀ ds Qd Qx, sp ds Qd Qx → w_law_same sp_law_same sp_law_is_integer { nx := fun ρ' => fin ds ρ' (Qd .non), rt := fun d ρ' => fin ds ρ' (Qd d), xx := fun x ρ' => fin ds ρ' (Qx x) } (entry N_law_same ds)) :
    FnOk P w K mg base (L2.CX P w) (k + 1) f fd ["actual", "due"] (lift K sp) :=
  fn_D F sc_law_same (fun cdv A outer s H E hr => by
    have scnd := sc_law_same.nd
    have hr_law_same := hr.mono h_law_same
    have hr_law_is_integer := hr.mono h_law_is_integer
    exact (dss_cons (ds_if (dt_tru (de_callB dc_isi rfl m_isinstance (by decide +kernel) (da_val (de_pure (dp_var 1)) (da_val (de_pure (dp_type rfl m_tuple (by decide +kernel))) da_nil)))) (dss_cons (ds_if (dt_w (dw_or (dt_not (dt_tru (de_callB dc_isi rfl m_isinstance (by decide +kernel) (da_val (de_pure (dp_var 0)) (da_val (de_pure (dp_type rfl m_tuple (by decide +kernel))) da_nil))))) (dw_or1 (dt_cmpP dop_ne (dp_len (dp_var 0) rfl m_len) (dp_len (dp_var 1) rfl m_len) (nomark _))))) (dss_one (ds_ret (de_pure dp_bl))) dss_nil)
      (dss_one (ds_ret (de_callB (dc_all rfl) rfl m_all (by decide +kernel) (da_val (de_keep (de_lc rfl scnd (di_rng1 (da_val (de_pure (dp_len (dp_var 1) rfl m_len)) da_nil) rfl m_range) (own' := [("k", 2)]) (blkOk_by (N := N_law_same) (sc := scope_law_same) (by decide +kernel)) (fun _ _ _ _ _ => (dg_name scnd rfl (by first | exact .inl rfl | exact .inr rfl))) (fun _ _ _ _ _ => dts_nil) (fun _ _ _ _ _ => (de_call G_law_same hr_law_same rfl g_law_same kp_law_same b_law_same takes0 (da_val (de_pure (dp_ix (dp_var 0) (dp_var 2) (fun _ _ => rfl))) (da_val (de_pure (dp_ix (dp_var 1) (dp_var 2) (fun _ _ => rfl))) da_nil)))))) da_nil))))) dss_nil)
      (dss_cons (ds_if (dt_tru (de_callB dc_isi rfl m_isinstance (by decide +kernel) (da_val (de_pure (dp_var 1)) (da_val (de_pure (dp_type rfl m_list (by decide +kernel))) da_nil)))) (dss_cons (ds_if (dt_w (dw_or (dt_not (dt_tru (de_callB dc_isi rfl m_isinstance (by decide +kernel) (da_val (de_pure (dp_var 0)) (da_val (de_pure (dp_type rfl m_list (by decide +kernel))) da_nil))))) (dw_or1 (dt_cmpP dop_ne (dp_len (dp_var 0) rfl m_len) (dp_len (dp_var 1) rfl m_len) (nomark _))))) (dss_one (ds_ret (de_pure dp_bl))) dss_nil)
      (dss_one (ds_ret (de_callB (dc_all rfl) rfl m_all (by decide +kernel) (da_val (de_keep (de_lc rfl scnd (di_rng1 (da_val (de_pure (dp_len (dp_var 1) rfl m_len)) da_nil) rfl m_range) (own' := [("k", 2)]) (blkOk_by (N := N_law_same) (sc := scope_law_same) (by decide +kernel)) (fun _ _ _ _ _ => (dg_name scnd rfl (by first | exact .inl rfl | exact .inr rfl))) (fun _ _ _ _ _ => dts_nil) (fun _ _ _ _ _ => (de_call G_law_same hr_law_same rfl g_law_same kp_law_same b_law_same takes0 (da_val (de_pure (dp_ix (dp_var 0) (dp_var 2) (fun _ _ => rfl))) (da_val (de_pure (dp_ix (dp_var 1) (dp_var 2) (fun _ _ => rfl))) da_nil)))))) da_nil))))) dss_nil)
      (dss_cons (ds_if (dt_cmpP dop_isN (dp_var 1) dp_non (nomark _)) (dss_one (ds_ret (de_pure (dp_cmp dop_isN (dp_var 0) dp_non (nomark _))))) dss_nil)
      (dss_cons (ds_if (dt_tru (de_callB dc_isi rfl m_isinstance (by decide +kernel) (da_val (de_pure (dp_var 1)) (da_val (de_pure (dp_type rfl m_bool (by decide +kernel))) da_nil)))) (dss_one (ds_ret (de_and (de_callB dc_isi rfl m_isinstance (by decide +kernel) (da_val (de_pure (dp_var 0)) (da_val (de_pure (dp_type rfl m_bool (by decide +kernel))) da_nil))) (de_one (de_pure (dp_cmp dop_eq (dp_var 0) (dp_var 1) (nomark _))))))) dss_nil)
      (dss_cons (ds_if (dt_tru (de_callB dc_isi rfl m_isinstance (by decide +kernel) (da_val (de_pure (dp_var 1)) (da_val (de_pure (dp_type rfl m_str (by decide +kernel))) da_nil)))) (dss_one (ds_ret (de_and (de_callB dc_isi rfl m_isinstance (by decide +kernel) (da_val (de_pure (dp_var 0)) (da_val (de_pure (dp_type rfl m_str (by decide +kernel))) da_nil))) (de_one (de_pure (dp_cmp dop_eq (dp_var 0) (dp_var 1) (nomark _))))))) dss_nil)
      (dss_one (ds_ret (de_and (de_call G_law_is_integer hr_law_is_integer rfl g_law_is_integer kp_law_is_integer b_law_is_integer (takes_of rfl rfl rfl rfl) (da_val (de_pure (dp_var 0)) da_nil)) (de_one (de_pure (dp_cmp dop_eq (dp_var 0) (dp_var 1) (nomark _))))))))))))) len word
theorem ok_law_excesses {f : Addr} {fd : FuncData} {k : Nat} (F : Fun K "_law_excesses" "_law_excesses" s_law_excesses f fd) (m_len : mg "len" = none)
    (m_range : mg "range" = none)
    {sp : DSp} (len : ∀ ds Qd Qx, sp ds Qd Qx → ds.length = 1) (word : ∀ ds Qd Qx, sp ds Qd Qx → w_law_excesses  { nx := fun ρ' => fin ds ρ' (Qd .non), rt := fun d ρ' => fin ds ρ' (Qd d), xx := fun x ρ' => fin ds ρ' (Qx x) } (entry N_law_excesses ds)) :
    FnOk P w K mg base (L2.CX P w) (k + 1) f fd ["flows"] (lift K sp) :=
  fn_D F sc_law_excesses (fun cdv A outer s H E hr => by
    have scnd := sc_law_excesses.nd
    exact (dss_one (ds_ret (de_lc rfl scnd (di_rng1 (da_val (de_pure (dp_len (dp_var 0) rfl m_len)) da_nil) rfl m_range) (own' := [("k", 1)]) (blkOk_by (N := N_law_excesses) (sc := scope_law_excesses) (by decide +kernel)) (fun _ _ _ _ _ => (dg_name scnd rfl (by first | exact .inl rfl | exact .inr rfl))) (fun _ _ _ _ _ => dts_nil) (fun _ _ _ _ _ => (de_pure (dp_op dop_sub (dp_ix (dp_var 0) (dp_var 1) (fun _ _ => rfl)) (dp_ix (dp_var 0) (dp_op dop_sub (dp_var 1) dp_int) (fun _ _ => rfl))))))))) len word
theorem ok_law_laid {f : Addr} {fd : FuncData} {k : Nat} (F : Fun K "_law_laid" "_law_laid" s_law_laid f fd) (m_len : mg "len" = none)
    (m_range : mg "range" = none)
    (m_tuple : mg "tuple" = none)
    {sp : DSp} (len : ∀ ds Qd Qx, sp ds Qd Qx → ds.length = 2) (word : ∀ ds Qd Qx, sp ds Qd Qx → w_law_laid  { nx := fun ρ' => fin ds ρ' (Qd .non), rt := fun d ρ' => fin ds ρ' (Qd d), xx := fun x ρ' => fin ds ρ' (Qx x) } (entry N_law_laid ds)) :
    FnOk P w K mg base (L2.CX P w) (k + 1) f fd ["flows", "moves"] (lift K sp) :=
  fn_D F sc_law_laid (fun cdv A outer s H E hr => by
    have scnd := sc_law_laid.nd
    exact (dss_cons (ds_set scnd rfl (by first | exact .inl rfl | exact .inr rfl) (de_pure (dp_len (dp_var 0) rfl m_len)))
      (dss_cons (ds_set scnd rfl (by first | exact .inl rfl | exact .inr rfl) (de_rep (de_lst (da_val (de_pure dp_int) da_nil)) (de_pure (dp_var 2))))
      (dss_cons (ds_for (passes_of rfl) rfl (di_seq (de_pure (dp_var 1))) (dg_tup rfl (dgs_cons (dg_name scnd rfl (by first | exact .inl rfl | exact .inr rfl)) (dgs_cons (dg_name scnd rfl (by first | exact .inl rfl | exact .inr rfl)) (dgs_cons (dg_name scnd rfl (by first | exact .inl rfl | exact .inr rfl)) (dgs_cons (dg_name scnd rfl (by first | exact .inl rfl | exact .inr rfl)) dgs_nil))))) (dss_cons (ds_set scnd rfl (by first | exact .inl rfl | exact .inr rfl) (de_pure (dp_var 4)))
      (dss_one (ds_for (passes_of rfl) rfl (di_rng1 (da_val (de_pure (dp_var 2)) da_nil) rfl m_range) (dg_name scnd rfl (by first | exact .inl rfl | exact .inr rfl)) (dss_one (ds_if (dt_w (dw_or (dt_cmpP dop_ne (dp_var 8) (dp_var 6) (nomark _)) (dw_or1 (dt_cmpP dop_eq (dp_var 9) dp_int (nomark _))))) (dss_cons (ds_set scnd rfl (by first | exact .inl rfl | exact .inr rfl) (de_if (dt_cmpP dop_eq (dp_var 5) dp_str (nomark _)) (de_pure (dp_var 8)) (de_pure (dp_op dop_sub (dp_op dop_add (dp_op dop_sub (dp_var 8) dp_int) (dp_var 2)) (dp_op dop_mul (dp_op dop_fdiv (dp_op dop_add (dp_op dop_sub (dp_var 8) dp_int) (dp_var 2)) (dp_var 2)) (dp_var 2))))))
      (dss_cons (ds_if (dt_cmp dop_lt (de_op dop_mul (de_pure (dp_ix (dp_var 3) (dp_var 10) (fun _ _ => rfl))) (de_if (dt_cmpP dop_eq (dp_var 5) dp_str (nomark _)) (de_pure dp_int) (de_pure (dp_neg dp_int)))) (de_pure dp_int) (nomark _)) (dss_one (ds_ret (de_pure dp_non))) dss_nil)
      (dss_cons (ds_setix (de_op dop_add (de_pure (dp_ix (dp_var 3) (dp_var 10) (fun _ _ => rfl))) (de_if (dt_cmpP dop_eq (dp_var 5) dp_str (nomark _)) (de_pure (dp_var 7)) (de_pure (dp_neg (dp_var 7))))) (dl_var 3) (dp_var 10) rfl rfl rfl (fun ho hi hs => pg_sub ho hi hs))
      (dss_cons (ds_set scnd rfl (by first | exact .inl rfl | exact .inr rfl) (de_if (dt_cmpP dop_eq (dp_var 5) dp_str (nomark _)) (de_pure (dp_op dop_add (dp_var 8) dp_int)) (de_pure (dp_var 10))))
      (dss_one (ds_set scnd rfl (by first | exact .inl rfl | exact .inr rfl) (de_if (dt_cmpP dop_eq (dp_var 8) (dp_var 2) (nomark _)) (de_pure dp_int) (de_pure (dp_var 8))))))))) dss_nil))))))
      (dss_one (ds_ret (de_tupP (dp_var 3) rfl m_tuple (by decide +kernel)))))))) len word
theorem ok_law_due {f : Addr} {fd : FuncData} {k : Nat} (F : Fun K "_law_due" "_law_due" s_law_due f fd) {f_law_excesses : Addr} {fd_law_excesses : FuncData} {k_law_excesses : Nat} {sp_law_excesses : DSp} (G_law_excesses : FnOk P w K mg base (L2.CX P w) k_law_excesses f_law_excesses fd_law_excesses ["flows"] (lift K sp_law_excesses)) (g_law_excesses : mg "_law_excesses" = some (.ref f_law_excesses)) (kp_law_excesses : PySem.W.keepIn K (.ref f_law_excesses) = true) (b_law_excesses : Binds K fd_law_excesses ["flows"] []) (h_law_excesses : k_law_excesses ≤ k)
    (m_abs : mg "abs" = none)
    (m_len : mg "len" = none)
    (m_list : mg "list" = none)
    (m_min : mg "min" = none)
    (m_range : mg "range" = none)
    (m_tuple : mg "tuple" = none)
    {sp : DSp} (len : ∀ ds Qd Qx, sp ds Qd Qx → ds.length = 1) (word : ∀ ds Qd Qx, sp ds Qd Qx → w_law_due sp_law_excesses { nx := fun ρ' => fin ds ρ' (Qd .non), rt := fun d ρ' => fin ds ρ' (Qd d), xx := fun x ρ' => fin ds ρ' (Qx x) } (entry N_law_due ds)) :
    FnOk P w K mg base (L2.CX P w) (k + 1) f fd ["flows"] (lift K sp) :=
  fn_D F sc_law_due (fun cdv A outer s H E hr => by
    have scnd := sc_law_due.nd
    have hr_law_excesses := hr.mono h_law_excesses
    exact (dss_cons (ds_set scnd rfl (by first | exact .inl rfl | exact .inr rfl) (de_pure (dp_len (dp_var 0) rfl m_len)))
      (dss_cons (ds_set scnd rfl (by first | exact .inl rfl | exact .inr rfl) (de_listP (dp_var 0) rfl m_list (by decide +kernel)))
      (dss_cons (ds_set scnd rfl (by first | exact .inl rfl | exact .inr rfl) (de_lst da_nil))
      (dss_cons (ds_for (passes_of rfl) rfl (di_rng1 (da_val (de_pure (dp_op dop_mul dp_int (dp_var 1))) da_nil) rfl m_range) (dg_name scnd rfl (by first | exact .inl rfl | exact .inr rfl)) (dss_cons (ds_set scnd rfl (by first | exact .inl rfl | exact .inr rfl) (de_call (FnOk.bor G_law_excesses) hr_law_excesses rfl g_law_excesses kp_law_excesses b_law_excesses (takes_of rfl rfl rfl rfl) (da_lend (dl_var 2) da_nil)))
      (dss_cons (ds_setLc rfl scnd rfl rfl (sw_true rfl rfl rfl (by decide +kernel)) (di_rng1 (da_val (de_pure (dp_var 1)) da_nil) rfl m_range) (own' := [("k", 7)]) (blkOk_by (N := N_law_due) (sc := scope_law_due) (by decide +kernel)) (fun _ _ _ _ _ => (dg_name scnd rfl (by first | exact .inl rfl | exact .inr rfl))) (fun _ _ _ _ _ => (dts_one (dt_cmpP dop_gt (dp_ix (dp_var 5) (dp_var 7) (fun _ _ => rfl)) dp_int (nomark _)))) (fun _ _ _ _ _ => (de_pure (dp_var 7))))
      (dss_cons (ds_if (dt_not (dt_truP (dp_var 6))) (dss_one ds_break) dss_nil)
      (dss_cons (ds_set scnd rfl (by first | exact .inl rfl | exact .inr rfl) (de_pure (dp_ix (dp_var 6) dp_int (fun _ _ => rfl))))
      (dss_cons (ds_set scnd rfl (by first | exact .inl rfl | exact .inr rfl) (de_if (dt_cmpP dop_gt (dp_ix (dp_var 2) (dp_var 8) (fun _ _ => rfl)) dp_int (nomark _)) (de_pure dp_int) (de_pure (dp_op dop_sub (dp_var 1) dp_int))))
      (dss_cons (ds_set scnd rfl (by first | exact .inl rfl | exact .inr rfl) (de_lst da_nil))
      (dss_cons (ds_set scnd rfl (by first | exact .inl rfl | exact .inr rfl) (de_pure (dp_var 8)))
      (dss_cons (ds_for (passes_of rfl) rfl (di_rng1 (da_val (de_pure (dp_var 1)) da_nil) rfl m_range) (dg_name scnd rfl (by first | exact .inl rfl | exact .inr rfl)) (dss_cons (ds_set scnd rfl (by first | exact .inl rfl | exact .inr rfl) (de_pure (dp_op dop_sub (dp_op dop_add (dp_var 11) (dp_var 9)) (dp_op dop_mul (dp_op dop_fdiv (dp_op dop_add (dp_var 11) (dp_var 9)) (dp_var 1)) (dp_var 1)))))
      (dss_cons (ds_expr (de_append (dl_var 10) (de_if (dt_w (dw_and (dt_cmpP dop_eq (dp_var 9) dp_int (nomark _)) (dw_and1 (dt_cmpP dop_gt (dp_ix (dp_var 2) (dp_var 8) (fun _ _ => rfl)) dp_int (nomark _))))) (de_pure (dp_var 11)) (de_pure (dp_var 12)))))
      (dss_cons (ds_set scnd rfl (by first | exact .inl rfl | exact .inr rfl) (de_pure (dp_var 12)))
      (dss_one (ds_if (dt_cmpP dop_lt (dp_ix (dp_var 5) (dp_var 11) (fun _ _ => rfl)) dp_int (nomark _)) (dss_one ds_break) dss_nil))))))
      (dss_cons (ds_set scnd rfl (by first | exact .inl rfl | exact .inr rfl) (de_callB (dc_min3 rfl) rfl m_min (by decide +kernel) (da_val (de_pure (dp_ix (dp_var 5) (dp_var 8) (fun _ _ => rfl))) (da_val (de_pure (dp_neg (dp_ix (dp_var 5) (dp_var 11) (fun _ _ => rfl)))) (da_val (de_callB dc_abs rfl m_abs (by decide +kernel) (da_val (de_pure (dp_ix (dp_var 2) (dp_ix (dp_var 10) dp_int (fun _ _ => rfl)) (fun _ _ => rfl))) da_nil)) da_nil)))))
      (dss_cons (ds_set scnd rfl (by first | exact .inl rfl | exact .inr rfl) (de_if (dt_cmpP dop_gt (dp_ix (dp_var 2) (dp_var 8) (fun _ _ => rfl)) dp_int (nomark _)) (de_pure dp_str) (de_pure dp_str)))
      (dss_cons (ds_for (passes_of rfl) rfl (di_list (de_frz 10)) (dg_name scnd rfl (by first | exact .inl rfl | exact .inr rfl)) (dss_one (ds_setix (de_op dop_add (de_pure (dp_ix (dp_var 2) (dp_var 15) (fun _ _ => rfl))) (de_if (dt_cmpP dop_eq (dp_var 14) dp_str (nomark _)) (de_pure (dp_neg (dp_var 13))) (de_pure (dp_var 13)))) (dl_var 2) (dp_var 15) rfl rfl rfl (fun ho hi hs => pg_sub ho hi hs))))
      (dss_one (ds_expr (de_append (dl_var 3) (de_tup (da_val (de_pure (dp_var 8)) (da_val (de_pure (dp_var 14)) (da_val (de_pure (dp_var 11)) (da_val (de_pure (dp_var 13)) da_nil))))))))))))))))))))
      (dss_one (ds_ret (de_tupP (dp_var 3) rfl m_tuple (by decide +kernel))))))))) len word
theorem ok_law_sides_so {f : Addr} {fd : FuncData} {k : Nat} (F : Fun K "_law_sides_so" "_law_sides_so" s_law_sides_so f fd) {f_law_excesses : Addr} {fd_law_excesses : FuncData} {k_law_excesses : Nat} {sp_law_excesses : DSp} (G_law_excesses : FnOk P w K mg base (L2.CX P w) k_law_excesses f_law_excesses fd_law_excesses ["flows"] (lift K sp_law_excesses)) (g_law_excesses : mg "_law_excesses" = some (.ref f_law_excesses)) (kp_law_excesses : PySem.W.keepIn K (.ref f_law_excesses) = true) (b_law_excesses : Binds K fd_law_excesses ["flows"] []) (h_law_excesses : k_law_excesses ≤ k)
    (m_all : mg "all" = none)
    {sp : DSp} (len : ∀ ds Qd Qx, sp ds Qd Qx → ds.length = 2) (word : ∀ ds Qd Qx, sp ds Qd Qx → w_law_sides_so sp_law_excesses { nx := fun ρ' => fin ds ρ' (Qd .non), rt := fun d ρ' => fin ds ρ' (Qd d), xx := fun x ρ' => fin ds ρ' (Qx x) } (entry N_law_sides_so ds)) :
    FnOk P w K mg base (L2.CX P w) (k + 1) f fd ["flows", "moves"] (lift K sp) :=
  fn_D F sc_law_sides_so (fun cdv A outer s H E hr => by
    have scnd := sc_law_sides_so.nd
    have hr_law_excesses := hr.mono h_law_excesses
    exact (dss_cons (ds_set scnd rfl (by first | exact .inl rfl | exact .inr rfl) (de_call G_law_excesses hr_law_excesses rfl g_law_excesses kp_law_excesses b_law_excesses (takes_of rfl rfl rfl rfl) (da_val (de_pure (dp_var 0)) da_nil)))
      (dss_cons (ds_for (passes_of rfl) rfl (di_seq (de_pure (dp_var 1))) (dg_tup rfl (dgs_cons (dg_name scnd rfl (by first | exact .inl rfl | exact .inr rfl)) (dgs_cons (dg_name scnd rfl (by first | exact .inl rfl | exact .inr rfl)) (dgs_cons (dg_name scnd rfl (by first | exact .inl rfl | exact .inr rfl)) (dgs_cons (dg_name scnd rfl (by first | exact .inl rfl | exact .inr rfl)) dgs_nil))))) (dss_cons (ds_if (dt_w (dw_or (dt_cmpP dop_lt (dp_ix (dp_var 2) (dp_var 3) (fun _ _ => rfl)) (dp_var 6) (nomark _)) (dw_or1 (dt_cmpP dop_gt (dp_ix (dp_var 2) (dp_var 5) (fun _ _ => rfl)) (dp_neg (dp_var 6)) (nomark _))))) (dss_one (ds_ret (de_pure dp_bl))) dss_nil)
      (dss_cons (ds_setix (de_pure (dp_op dop_sub (dp_ix (dp_var 2) (dp_var 3) (fun _ _ => rfl)) (dp_var 6))) (dl_var 2) (dp_var 3) rfl rfl rfl (fun ho hi hs => pg_sub ho hi hs))
      (dss_one (ds_setix (de_pure (dp_op dop_add (dp_ix (dp_var 2) (dp_var 5) (fun _ _ => rfl)) (dp_var 6))) (dl_var 2) (dp_var 5) rfl rfl rfl (fun ho hi hs => pg_sub ho hi hs))))))
      (dss_one (ds_ret (de_callB (dc_all rfl) rfl m_all (by decide +kernel) (da_val (de_keep (de_lc rfl scnd (di_list (de_frz 2)) (own' := [("number", 7)]) (blkOk_by (N := N_law_sides_so) (sc := scope_law_sides_so) (by decide +kernel)) (fun _ _ _ _ _ => (dg_name scnd rfl (by first | exact .inl rfl | exact .inr rfl))) (fun _ _ _ _ _ => dts_nil) (fun _ _ _ _ _ => (de_pure (dp_cmp dop_eq (dp_var 7) dp_int (nomark _)))))) da_nil))))))) len word
theorem ok_law_refused {f : Addr} {fd : FuncData} {k : Nat} (F : Fun K "_law_refused" "_law_refused" s_law_refused f fd) {f_to_moves : Addr} {fd_to_moves : FuncData} {k_to_moves : Nat} {sp_to_moves : DSp} (G_to_moves : FnOk P w K mg base (L2.CX P w) k_to_moves f_to_moves fd_to_moves ["flows"] (lift K sp_to_moves)) (g_to_moves : mg "to_moves" = some (.ref f_to_moves)) (kp_to_moves : PySem.W.keepIn K (.ref f_to_moves) = true) (b_to_moves : Binds K fd_to_moves ["flows"] []) (h_to_moves : k_to_moves ≤ k)
    {C_BadFlows : Addr} (te_BadFlows : PySem.W.exmOne K (.ref C_BadFlows) (.ref C_BadFlows) = some true) (gC_BadFlows : mg "BadFlows" = some (.ref C_BadFlows))
    {C_AllUsed : Addr} (te_AllUsed : PySem.W.exmOne K (.ref C_AllUsed) (.ref C_AllUsed) = some true) (gC_AllUsed : mg "AllUsed" = some (.ref C_AllUsed))
    (tf_BadFlows_AllUsed : PySem.W.exmOne K (.ref C_BadFlows) (.ref C_AllUsed) = some false)
    {sp : DSp} (len : ∀ ds Qd Qx, sp ds Qd Qx → ds.length = 1) (word : ∀ ds Qd Qx, sp ds Qd Qx → w_law_refused sp_to_moves C_BadFlows C_AllUsed { nx := fun ρ' => fin ds ρ' (Qd .non), rt := fun d ρ' => fin ds ρ' (Qd d), xx := fun x ρ' => fin ds ρ' (Qx x) } (entry N_law_refused ds)) :
    FnOk P w K mg base (L2.CX P w) (k + 1) f fd ["flows"] (lift K sp) :=
  fn_D F sc_law_refused (fun cdv A outer s H E hr => by
    have scnd := sc_law_refused.nd
    have hr_to_moves := hr.mono h_to_moves
    exact (dss_cons (ds_try_many rfl rfl scnd (takes_of rfl rfl rfl rfl) (fun W' pn xe tk _ => (dss_one (ds_expr (de_call G_to_moves hr_to_moves rfl g_to_moves kp_to_moves b_to_moves tk (da_val (de_pure (dp_var 0)) da_nil))))) (HOk.plain ⟨rfl, by decide, .inl gC_AllUsed⟩ te_AllUsed (by intro h hh; simp only [List.mem_cons, List.not_mem_nil, or_false] at hh; rcases hh with rfl <;> assumption) (xpk_cons (d := .str "refused") (fun _ => pe_str) (fun _ => rfl) (fun _ _ => rfl) rfl (xpk_cons (d := .str "used") (fun _ => pe_str) (fun _ => rfl) (fun _ _ => rfl) rfl xpk_nil)) (HOk.plain ⟨rfl, by decide, .inl gC_BadFlows⟩ te_BadFlows (fun h hh => nomatch hh) (xpk_cons (d := .str "refused") (fun _ => pe_str) (fun _ => rfl) (fun _ _ => rfl) rfl (xpk_cons (d := .str "flows") (fun _ => pe_str) (fun _ => rfl) (fun _ _ => rfl) rfl xpk_nil)) HOk.nil)))
      (dss_one (ds_ret (de_pure dp_non))))) len word
theorem ok_law {f : Addr} {fd : FuncData} {k : Nat} (F : Fun K "law" "law" s_law f fd) {f_law_pool : Addr} {fd_law_pool : FuncData} {k_law_pool : Nat} {sp_law_pool : DSp} (G_law_pool : FnOk P w K mg base (L2.CX P w) k_law_pool f_law_pool fd_law_pool ["script"] (lift K sp_law_pool)) (g_law_pool : mg "_law_pool" = some (.ref f_law_pool)) (kp_law_pool : PySem.W.keepIn K (.ref f_law_pool) = true) (b_law_pool : Binds K fd_law_pool ["script"] []) (h_law_pool : k_law_pool ≤ k)
    {f_law_take : Addr} {fd_law_take : FuncData} {k_law_take : Nat} {sp_law_take : DSp} (G_law_take : FnOk P w K mg base (L2.CX P w) k_law_take f_law_take fd_law_take ["pool", "many"] (lift K sp_law_take)) (g_law_take : mg "_law_take" = some (.ref f_law_take)) (kp_law_take : PySem.W.keepIn K (.ref f_law_take) = true) (b_law_take : Binds K fd_law_take ["pool", "many"] []) (h_law_take : k_law_take ≤ k)
    {f_to_moves : Addr} {fd_to_moves : FuncData} {k_to_moves : Nat} {sp_to_moves : DSp} (G_to_moves : FnOk P w K mg base (L2.CX P w) k_to_moves f_to_moves fd_to_moves ["flows"] (lift K sp_to_moves)) (g_to_moves : mg "to_moves" = some (.ref f_to_moves)) (kp_to_moves : PySem.W.keepIn K (.ref f_to_moves) = true) (b_to_moves : Binds K fd_to_moves ["flows"] []) (h_to_moves : k_to_moves ≤ k)
    {f_law_same : Addr} {fd_law_same : FuncData} {k_law_same : Nat} {sp_law_same : DSp} (G_law_same : FnOk P w K mg base (L2.CX P w) k_law_same f_law_same fd_law_same ["actual", "due"] (lift K sp_law_same)) (g_law_same : mg "_law_same" = some (.ref f_law_same)) (kp_law_same : PySem.W.keepIn K (.ref f_law_same) = true) (b_law_same : Binds K fd_law_same ["actual", "due"] []) (h_law_same : k_law_same ≤ k)
    {f_law_due : Addr} {fd_law_due : FuncData} {k_law_due : Nat} {sp_law_due : DSp} (G_law_due : FnOk P w K mg base (L2.CX P w) k_law_due f_law_due fd_law_due ["flows"] (lift K sp_law_due)) (g_law_due : mg "_law_due" = some (.ref f_law_due)) (kp_law_due : PySem.W.keepIn K (.ref f_law_due) = true) (b_law_due : Binds K fd_law_due ["flows"] []) (h_law_due : k_law_due ≤ k)
    {f_law_laid : Addr} {fd_law_laid : FuncData} {k_law_laid : Nat} {sp_law_laid : DSp} (G_law_laid : FnOk P w K mg base (L2.CX P w) k_law_laid f_law_laid fd_law_laid ["flows", "moves"] (lift K sp_law_laid)) (g_law_laid : mg "_law_laid" = some (.ref f_law_laid)) (kp_law_laid : PySem.W.keepIn K (.ref f_law_laid) = true) (b_law_laid : Binds K fd_law_laid ["flows", "moves"] []) (h_law_laid : k_law_laid ≤ k)
    {f_law_sides_so : Addr} {fd_law_sides_so : FuncData} {k_law_sides_so : Nat} {sp_law_sides_so : DSp} (G_law_sides_so : FnOk P w K mg base (L2.CX P w) k_law_sides_so f_law_sides_so fd_law_sides_so ["flows", "moves"] (lift K sp_law_sides_so)) (g_law_sides_so : mg "_law_sides_so" = some (.ref f_law_sides_so)) (kp_law_sides_so : PySem.W.keepIn K (.ref f_law_sides_so) = true) (b_law_sides_so : Binds K fd_law_sides_so ["flows", "moves"] []) (h_law_sides_so : k_law_sides_so ≤ k)
    {f_law_refused : Addr} {fd_law_refused : FuncData} {k_law_refused : Nat} {sp_law_refused : DSp} (G_law_refused : FnOk P w K mg base (L2.CX P w) k_law_refused f_law_refused fd_law_refused ["flows"] (lift K sp_law_refused)) (g_law_refused : mg "_law_refused" = some (.ref f_law_refused)) (kp_law_refused : PySem.W.keepIn K (.ref f_law_refused) = true) (b_law_refused : Binds K fd_law_refused ["flows"] []) (h_law_refused : k_law_refused ≤ k)
    (m_len : mg "len" = none)
    (m_range : mg "range" = none)
    (m_tuple : mg "tuple" = none)
    {sp : DSp} (len : ∀ ds Qd Qx, sp ds Qd Qx → ds.length = 1) (word : ∀ ds Qd Qx, sp ds Qd Qx → w_law sp_law_pool sp_law_take sp_to_moves sp_law_same sp_law_due sp_law_laid sp_law_sides_so sp_law_refused { nx := fun ρ' => fin ds ρ' (Qd .non), rt := fun d ρ' => fin ds ρ' (Qd d), xx := fun x ρ' => fin ds ρ' (Qx x) } (entry N_law ds)) :
    FnOk P w K mg base (L2.CX P w) (k + 1) f fd ["script"] (lift K sp) :=
  fn_D F sc_law (fun cdv A outer s H E hr => by
    have scnd := sc_law.nd
    have hr_law_pool := hr.mono h_law_pool
    have hr_law_take := hr.mono h_law_take
    have hr_to_moves := hr.mono h_to_moves
    have hr_law_same := hr.mono h_law_same
    have hr_law_due := hr.mono h_law_due
    have hr_law_laid := hr.mono h_law_laid
    have hr_law_sides_so := hr.mono h_law_sides_so
    have hr_law_refused := hr.mono h_law_refused
    exact (dss_cons (ds_set scnd rfl (by first | exact .inl rfl | exact .inr rfl) (de_call G_law_pool hr_law_pool rfl g_law_pool kp_law_pool b_law_pool (takes_of rfl rfl rfl rfl) (da_val (de_pure (dp_var 0)) da_nil)))
      (dss_cons (ds_set scnd rfl (by first | exact .inl rfl | exact .inr rfl) (de_op dop_add (de_pure dp_int) (de_call G_law_take hr_law_take rfl g_law_take kp_law_take b_law_take (takes_of rfl rfl rfl rfl) (da_lend (dl_var 1) (da_val (de_keep (de_ix (de_tup (da_val (de_pure dp_int) (da_val (de_pure dp_int) da_nil))) (de_call G_law_take hr_law_take rfl g_law_take kp_law_take b_law_take (takes_of rfl rfl rfl rfl) (da_lend (dl_var 1) (da_val (de_pure dp_int) da_nil))) (fun _ _ => rfl))) da_nil)))))
      (dss_cons (ds_set scnd rfl (by first | exact .inl rfl | exact .inr rfl) (de_ix (de_tup (da_val (de_pure dp_int) (da_val (de_pure dp_int) (da_val (de_pure dp_int) da_nil)))) (de_call G_law_take hr_law_take rfl g_law_take kp_law_take b_law_take (takes_of rfl rfl rfl rfl) (da_lend (dl_var 1) (da_val (de_pure dp_int) da_nil))) (fun _ _ => rfl)))
      (dss_cons (ds_setLc rfl scnd rfl rfl (sw_true rfl rfl rfl (by decide +kernel)) (di_rng1 (da_val (de_pure (dp_var 2)) da_nil) rfl m_range) (own' := [("k", 5)]) (blkOk_by (N := N_law) (sc := scope_law) (by decide +kernel)) (fun _ _ _ _ _ => (dg_name scnd rfl (by first | exact .inl rfl | exact .inr rfl))) (fun _ _ _ _ _ => dts_nil) (fun _ _ _ _ _ => (de_if (dt_cmp dop_gt (de_call G_law_take hr_law_take rfl g_law_take kp_law_take b_law_take takes0 (da_lend (dl_var 1) (da_val (de_pure dp_int) da_nil))) (de_pure dp_int) (nomark _)) (de_op dop_sub (de_call G_law_take hr_law_take rfl g_law_take kp_law_take b_law_take takes0 (da_lend (dl_var 1) (da_val (de_pure (dp_op dop_add (dp_op dop_mul dp_int (dp_var 3)) dp_int)) da_nil))) (de_pure (dp_var 3))) (de_pure dp_int))))
      (dss_cons (ds_setixE dp_int (dl_var 4) (de_call G_law_take hr_law_take rfl g_law_take kp_law_take b_law_take (takes_of rfl rfl rfl rfl) (da_lend (dl_var 1) (da_val (de_pure (dp_var 2)) da_nil))) rfl rfl rfl (fun ho hi hs => pg_sub ho hi hs))
      (dss_cons (ds_set scnd rfl (by first | exact .inl rfl | exact .inr rfl) (de_call G_to_moves hr_to_moves rfl g_to_moves kp_to_moves b_to_moves (takes_of rfl rfl rfl rfl) (da_val (de_tupP (dp_var 4) rfl m_tuple (by decide +kernel)) da_nil)))
      (dss_cons (ds_if (dt_w (dw_or (dt_not (dt_tru (de_call G_law_same hr_law_same rfl g_law_same kp_law_same b_law_same (takes_of rfl rfl rfl rfl) (da_val (de_pure (dp_var 6)) (da_val (de_call G_law_due hr_law_due rfl g_law_due kp_law_due b_law_due (takes_of rfl rfl rfl rfl) (da_val (de_frz 4) da_nil)) da_nil))))) (dw_or1 (dt_not (dt_tru (de_call G_law_same hr_law_same rfl g_law_same kp_law_same b_law_same (takes_of rfl rfl rfl rfl) (da_val (de_keep (de_call G_law_laid hr_law_laid rfl g_law_laid kp_law_laid b_law_laid (takes_of rfl rfl rfl rfl) (da_val (de_frz 4) (da_val (de_pure (dp_var 6)) da_nil)))) (da_val (de_tupP (dp_var 4) rfl m_tuple (by decide +kernel)) da_nil)))))))) (dss_one (ds_ret (de_pure dp_bl))) dss_nil)
      (dss_cons (ds_if (dt_w (dw_or (dt_not (dt_tru (de_call G_law_sides_so hr_law_sides_so rfl g_law_sides_so kp_law_sides_so b_law_sides_so (takes_of rfl rfl rfl rfl) (da_val (de_frz 4) (da_val (de_pure (dp_var 6)) da_nil))))) (dw_or1 (dt_cmpP dop_ge (dp_len (dp_var 6) rfl m_len) (dp_op dop_mul dp_int (dp_var 2)) (nomark _))))) (dss_one (ds_ret (de_pure dp_bl))) dss_nil)
      (dss_cons (ds_if (dt_not (dt_tru (de_call G_law_same hr_law_same rfl g_law_same kp_law_same b_law_same (takes_of rfl rfl rfl rfl) (da_val (de_keep (de_call G_law_refused hr_law_refused rfl g_law_refused kp_law_refused b_law_refused (takes_of rfl rfl rfl rfl) (da_val (de_keep (de_lc rfl scnd (di_list (de_frz 4)) (own' := [("flow", 7)]) (blkOk_by (N := N_law) (sc := scope_law) (by decide +kernel)) (fun _ _ _ _ _ => (dg_name scnd rfl (by first | exact .inl rfl | exact .inr rfl))) (fun _ _ _ _ _ => dts_nil) (fun _ _ _ _ _ => (de_if (dt_cmpP dop_ne (dp_var 7) dp_int (nomark _)) (de_pure (dp_var 7)) (de_pure dp_int))))) da_nil))) (da_val (de_tup (da_val (de_pure dp_str) (da_val (de_pure dp_str) da_nil))) da_nil))))) (dss_one (ds_ret (de_pure dp_bl))) dss_nil)
      (dss_one (ds_ret (de_call G_law_same hr_law_same rfl g_law_same kp_law_same b_law_same (takes_of rfl rfl rfl rfl) (da_val (de_keep (de_call G_law_refused hr_law_refused rfl g_law_refused kp_law_refused b_law_refused (takes_of rfl rfl rfl rfl) (da_val (de_keep (de_ix (de_tup (da_val (de_keep (de_lst (da_val (de_pure dp_int) da_nil))) (da_val (de_keep (de_lst da_nil)) (da_val (de_keep (de_rep (de_lst (da_val (de_pure dp_int) da_nil)) (de_pure dp_int))) da_nil)))) (de_call G_law_take hr_law_take rfl g_law_take kp_law_take b_law_take (takes_of rfl rfl rfl rfl) (da_lend (dl_var 1) (da_val (de_pure dp_int) da_nil))) (fun _ _ => rfl))) da_nil))) (da_val (de_tup (da_val (de_pure dp_str) (da_val (de_pure dp_str) da_nil))) da_nil))))))))))))))) len word
end
end Qk68
set_option Elab.async false
set_option linter.all false
set_option maxRecDepth 100000
set_option maxHeartbeats 8000000
namespace Qk68
open PySem PySem.Spec PyProof.Rows L2 DL
/-! ### the end -/
theorem exm_not {K : PySem.W.Frag} {X C : Addr} (eC : PySem.W.subIn K (.ref C) (.type "BaseException") = some true) (isC : PySem.W.isClsIn K C = true) (tC : PySem.W.typeIn K (.ref C) = some (.type "type")) (sC : PySem.W.subIn K (.ref X) (.ref C) = some false) : PySem.W.exmOne K (.ref X) (.ref C) = some false := by
  have c : (PySem.W.clsIn K C).isSome = true := isC
  simp only [PySem.W.exmOne, PySem.W.kitCls, eC, tC, sC, c]
  rfl
theorem len_ring : ∀ ds Qd Qx, (sp_ring) ds Qd Qx → ds.length = 1 := by
  rintro ds Qd Qx ⟨_, _, rfl, _⟩; rfl
theorem len_exc : ∀ ds Qd Qx, (sp_exc) ds Qd Qx → ds.length = 1 := by
  rintro ds Qd Qx ⟨_, _, rfl, _⟩; rfl
theorem len_nm : ∀ ds Qd Qx, (sp_nm) ds Qd Qx → ds.length = 1 := by
  rintro ds Qd Qx ⟨_, _, rfl, _⟩; rfl
theorem len_tm {C_BadFlows : Addr} {C_AllUsed : Addr} : ∀ ds Qd Qx, (sp_tm C_BadFlows C_AllUsed) ds Qd Qx → ds.length = 1 := by
  rintro ds Qd Qx ⟨_, _, rfl, _⟩; rfl
theorem len_law_pool : ∀ ds Qd Qx, (sp_pool) ds Qd Qx → ds.length = 1 := by
  rintro ds Qd Qx ⟨_, rfl, _⟩; rfl
theorem len_take1 : ∀ ds Qd Qx, (sp_take1) ds Qd Qx → ds.length = 2 := by
  rintro ds Qd Qx ⟨_, _, _, _, _, _, _, rfl, _⟩; rfl
theorem len_take : ∀ ds Qd Qx, (sp_take) ds Qd Qx → ds.length = 2 := by
  rintro ds Qd Qx ⟨_, _, _, rfl, _⟩; rfl
theorem len_isint : ∀ ds Qd Qx, (sp_int) ds Qd Qx → ds.length = 1 := by
  rintro ds Qd Qx ⟨_, rfl, _⟩; rfl
theorem len_same1 : ∀ ds Qd Qx, (sp_same 1) ds Qd Qx → ds.length = 2 := by
  rintro ds Qd Qx ⟨_, rfl, _⟩; rfl
theorem len_same2 : ∀ ds Qd Qx, (sp_same 2) ds Qd Qx → ds.length = 2 := by
  rintro ds Qd Qx ⟨_, rfl, _⟩; rfl
theorem len_same : ∀ ds Qd Qx, (sp_same 3) ds Qd Qx → ds.length = 2 := by
  rintro ds Qd Qx ⟨_, rfl, _⟩; rfl
theorem len_lexc : ∀ ds Qd Qx, (sp_exc) ds Qd Qx → ds.length = 1 := by
  rintro ds Qd Qx ⟨_, _, rfl, _⟩; rfl
theorem len_laid : ∀ ds Qd Qx, (sp_laid) ds Qd Qx → ds.length = 2 := by
  rintro ds Qd Qx ⟨_, _, _, rfl, _⟩; rfl
theorem len_due : ∀ ds Qd Qx, (sp_due) ds Qd Qx → ds.length = 1 := by
  rintro ds Qd Qx ⟨_, _, _, rfl, _⟩; rfl
theorem len_sides : ∀ ds Qd Qx, (sp_sides) ds Qd Qx → ds.length = 2 := by
  rintro ds Qd Qx ⟨_, _, _, rfl, _⟩; rfl
theorem len_rf {C_BadFlows : Addr} {C_AllUsed : Addr} : ∀ ds Qd Qx, (sp_rf C_BadFlows C_AllUsed) ds Qd Qx → ds.length = 1 := by
  rintro ds Qd Qx ⟨_, _, rfl, _⟩; rfl
theorem len_law : ∀ ds Qd Qx, (spLaw 63) ds Qd Qx → ds.length = 1 := by
  rintro ds Qd Qx ⟨_, rfl, _⟩; rfl
theorem all_mk {l : PySem.W.OpenLaw} {w : World} {K : PySem.W.Frag} {h : Heap} {mg : Str → Option Value} {fa f0 f1 f2 f3 f4 f5 f6 f7 f8 f9 f10 f11 f12 f13 : Addr} (X : K.In h) (G : h.Ns mainGlobals mg) (hfa : mg "law" = some (.ref fa))
    {od0 an0 od1 an1 od2 an2 od3 an3 od4 an4 od5 an5 od6 an6 od7 an7 od8 an8 od9 an9 od10 an10 od11 an11 od12 an12 od13 an13 : Option Addr} {sl0 sl1 sl2 sl3 sl4 sl5 sl6 sl7 sl8 sl9 sl10 sl11 sl12 sl13 : Array (Option Value)} {oc0 kV0 dc0 pm0 cd0 ct0 oc1 kV1 dc1 pm1 cd1 ct1 oc2 kV2 dc2 pm2 cd2 ct2 oc3 kV3 dc3 pm3 cd3 ct3 oc4 kV4 dc4 pm4 cd4 ct4 oc5 kV5 dc5 pm5 cd5 ct5 oc6 kV6 dc6 pm6 cd6 ct6 oc7 kV7 dc7 pm7 cd7 ct7 oc8 kV8 dc8 pm8 cd8 ct8 oc9 kV9 dc9 pm9 cd9 ct9 oc10 kV10 dc10 pm10 cd10 ct10 oc11 kV11 dc11 pm11 cd11 ct11 oc12 kV12 dc12 pm12 cd12 ct12 oc13 kV13 dc13 pm13 cd13 ct13 : Value}
    (a0 : PySem.W.nsIn K mainGlobals "is_ring" = some (some (.ref f0))) (l0 : K.lookup f0 = some ⟨oc0, od0, .func (PySem.W.fnOf "is_ring" "is_ring" (defArgs s_is_ring) (defBody s_is_ring) (defScope s_is_ring) .none kV0 dc0 pm0 an0 cd0 ct0), sl0⟩) (c0 : PySem.W.codeIn K cd0 "is_ring" = true) (k0 : PySem.W.keepIn K (.ref f0) = true)
    (a1 : PySem.W.nsIn K mainGlobals "excesses" = some (some (.ref f1))) (l1 : K.lookup f1 = some ⟨oc1, od1, .func (PySem.W.fnOf "excesses" "excesses" (defArgs s_excesses) (defBody s_excesses) (defScope s_excesses) .none kV1 dc1 pm1 an1 cd1 ct1), sl1⟩) (c1 : PySem.W.codeIn K cd1 "excesses" = true) (k1 : PySem.W.keepIn K (.ref f1) = true)
    (a2 : PySem.W.nsIn K mainGlobals "next_move" = some (some (.ref f2))) (l2 : K.lookup f2 = some ⟨oc2, od2, .func (PySem.W.fnOf "next_move" "next_move" (defArgs s_next_move) (defBody s_next_move) (defScope s_next_move) .none kV2 dc2 pm2 an2 cd2 ct2), sl2⟩) (c2 : PySem.W.codeIn K cd2 "next_move" = true) (k2 : PySem.W.keepIn K (.ref f2) = true)
    (a3 : PySem.W.nsIn K mainGlobals "to_moves" = some (some (.ref f3))) (l3 : K.lookup f3 = some ⟨oc3, od3, .func (PySem.W.fnOf "to_moves" "to_moves" (defArgs s_to_moves) (defBody s_to_moves) (defScope s_to_moves) .none kV3 dc3 pm3 an3 cd3 ct3), sl3⟩) (c3 : PySem.W.codeIn K cd3 "to_moves" = true) (k3 : PySem.W.keepIn K (.ref f3) = true)
    (a4 : PySem.W.nsIn K mainGlobals "_law_pool" = some (some (.ref f4))) (l4 : K.lookup f4 = some ⟨oc4, od4, .func (PySem.W.fnOf "_law_pool" "_law_pool" (defArgs s_law_pool) (defBody s_law_pool) (defScope s_law_pool) .none kV4 dc4 pm4 an4 cd4 ct4), sl4⟩) (c4 : PySem.W.codeIn K cd4 "_law_pool" = true) (k4 : PySem.W.keepIn K (.ref f4) = true)
    (a5 : PySem.W.nsIn K mainGlobals "_law_take" = some (some (.ref f5))) (l5 : K.lookup f5 = some ⟨oc5, od5, .func (PySem.W.fnOf "_law_take" "_law_take" (defArgs s_law_take) (defBody s_law_take) (defScope s_law_take) .none kV5 dc5 pm5 an5 cd5 ct5), sl5⟩) (c5 : PySem.W.codeIn K cd5 "_law_take" = true) (k5 : PySem.W.keepIn K (.ref f5) = true)
    (a6 : PySem.W.nsIn K mainGlobals "_law_is_integer" = some (some (.ref f6))) (l6 : K.lookup f6 = some ⟨oc6, od6, .func (PySem.W.fnOf "_law_is_integer" "_law_is_integer" (defArgs s_law_is_integer) (defBody s_law_is_integer) (defScope s_law_is_integer) .none kV6 dc6 pm6 an6 cd6 ct6), sl6⟩) (c6 : PySem.W.codeIn K cd6 "_law_is_integer" = true) (k6 : PySem.W.keepIn K (.ref f6) = true)
    (a7 : PySem.W.nsIn K mainGlobals "_law_same" = some (some (.ref f7))) (l7 : K.lookup f7 = some ⟨oc7, od7, .func (PySem.W.fnOf "_law_same" "_law_same" (defArgs s_law_same) (defBody s_law_same) (defScope s_law_same) .none kV7 dc7 pm7 an7 cd7 ct7), sl7⟩) (c7 : PySem.W.codeIn K cd7 "_law_same" = true) (k7 : PySem.W.keepIn K (.ref f7) = true)
    (a8 : PySem.W.nsIn K mainGlobals "_law_excesses" = some (some (.ref f8))) (l8 : K.lookup f8 = some ⟨oc8, od8, .func (PySem.W.fnOf "_law_excesses" "_law_excesses" (defArgs s_law_excesses) (defBody s_law_excesses) (defScope s_law_excesses) .none kV8 dc8 pm8 an8 cd8 ct8), sl8⟩) (c8 : PySem.W.codeIn K cd8 "_law_excesses" = true) (k8 : PySem.W.keepIn K (.ref f8) = true)
    (a9 : PySem.W.nsIn K mainGlobals "_law_laid" = some (some (.ref f9))) (l9 : K.lookup f9 = some ⟨oc9, od9, .func (PySem.W.fnOf "_law_laid" "_law_laid" (defArgs s_law_laid) (defBody s_law_laid) (defScope s_law_laid) .none kV9 dc9 pm9 an9 cd9 ct9), sl9⟩) (c9 : PySem.W.codeIn K cd9 "_law_laid" = true) (k9 : PySem.W.keepIn K (.ref f9) = true)
    (a10 : PySem.W.nsIn K mainGlobals "_law_due" = some (some (.ref f10))) (l10 : K.lookup f10 = some ⟨oc10, od10, .func (PySem.W.fnOf "_law_due" "_law_due" (defArgs s_law_due) (defBody s_law_due) (defScope s_law_due) .none kV10 dc10 pm10 an10 cd10 ct10), sl10⟩) (c10 : PySem.W.codeIn K cd10 "_law_due" = true) (k10 : PySem.W.keepIn K (.ref f10) = true)
    (a11 : PySem.W.nsIn K mainGlobals "_law_sides_so" = some (some (.ref f11))) (l11 : K.lookup f11 = some ⟨oc11, od11, .func (PySem.W.fnOf "_law_sides_so" "_law_sides_so" (defArgs s_law_sides_so) (defBody s_law_sides_so) (defScope s_law_sides_so) .none kV11 dc11 pm11 an11 cd11 ct11), sl11⟩) (c11 : PySem.W.codeIn K cd11 "_law_sides_so" = true) (k11 : PySem.W.keepIn K (.ref f11) = true)
    (a12 : PySem.W.nsIn K mainGlobals "_law_refused" = some (some (.ref f12))) (l12 : K.lookup f12 = some ⟨oc12, od12, .func (PySem.W.fnOf "_law_refused" "_law_refused" (defArgs s_law_refused) (defBody s_law_refused) (defScope s_law_refused) .none kV12 dc12 pm12 an12 cd12 ct12), sl12⟩) (c12 : PySem.W.codeIn K cd12 "_law_refused" = true) (k12 : PySem.W.keepIn K (.ref f12) = true)
    (a13 : PySem.W.nsIn K mainGlobals "law" = some (some (.ref f13))) (l13 : K.lookup f13 = some ⟨oc13, od13, .func (PySem.W.fnOf "law" "law" (defArgs s_law) (defBody s_law) (defScope s_law) .none kV13 dc13 pm13 an13 cd13 ct13), sl13⟩) (c13 : PySem.W.codeIn K cd13 "law" = true) (k13 : PySem.W.keepIn K (.ref f13) = true)
    {tc_FEWEST_PORTS : Tok} (ac_FEWEST_PORTS : PySem.W.nsIn K mainGlobals "FEWEST_PORTS" = some (some (.int 2 tc_FEWEST_PORTS)))
    {tc_MOST_PORTS : Tok} (ac_MOST_PORTS : PySem.W.nsIn K mainGlobals "MOST_PORTS" = some (some (.int 24 tc_MOST_PORTS)))
    {C_BadFlows : Addr} (aC_BadFlows : PySem.W.nsIn K mainGlobals "BadFlows" = some (some (.ref C_BadFlows))) (q_BadFlows : PySem.W.excIn K C_BadFlows [.type "ValueError", .type "Exception", .type "BaseException", .type "object"] "ValueError.__new__" = true) (kC_BadFlows : PySem.W.keepIn K (.ref C_BadFlows) = true) (eC_BadFlows : PySem.W.subIn K (.ref C_BadFlows) (.type "BaseException") = some true) (tC_BadFlows : PySem.W.typeIn K (.ref C_BadFlows) = some (.type "type")) (isC_BadFlows : PySem.W.isClsIn K C_BadFlows = true) (sC_BadFlows : PySem.W.subIn K (.ref C_BadFlows) (.ref C_BadFlows) = some true)
    {C_AllUsed : Addr} (aC_AllUsed : PySem.W.nsIn K mainGlobals "AllUsed" = some (some (.ref C_AllUsed))) (q_AllUsed : PySem.W.excIn K C_AllUsed [.type "ValueError", .type "Exception", .type "BaseException", .type "object"] "ValueError.__new__" = true) (kC_AllUsed : PySem.W.keepIn K (.ref C_AllUsed) = true) (eC_AllUsed : PySem.W.subIn K (.ref C_AllUsed) (.type "BaseException") = some true) (tC_AllUsed : PySem.W.typeIn K (.ref C_AllUsed) = some (.type "type")) (isC_AllUsed : PySem.W.isClsIn K C_AllUsed = true) (sC_AllUsed : PySem.W.subIn K (.ref C_AllUsed) (.ref C_AllUsed) = some true)
    (sF_BadFlows_AllUsed : PySem.W.subIn K (.ref C_BadFlows) (.ref C_AllUsed) = some false)
    (z_abs : PySem.W.nsIn K mainGlobals "abs" = some none)
    (z_all : PySem.W.nsIn K mainGlobals "all" = some none)
    (z_bool : PySem.W.nsIn K mainGlobals "bool" = some none)
    (z_enumerate : PySem.W.nsIn K mainGlobals "enumerate" = some none)
    (z_int : PySem.W.nsIn K mainGlobals "int" = some none)
    (z_isinstance : PySem.W.nsIn K mainGlobals "isinstance" = some none)
    (z_len : PySem.W.nsIn K mainGlobals "len" = some none)
    (z_list : PySem.W.nsIn K mainGlobals "list" = some none)
    (z_min : PySem.W.nsIn K mainGlobals "min" = some none)
    (z_range : PySem.W.nsIn K mainGlobals "range" = some none)
    (z_str : PySem.W.nsIn K mainGlobals "str" = some none)
    (z_tuple : PySem.W.nsIn K mainGlobals "tuple" = some none)
    : ∃ fd : FuncData, (∀ (s : Shared) (v : Value), BindsTo s fd ⟨[v], []⟩ [("script", v)]) ∧ ∀ base : Heap, K.In base → base.Ns mainGlobals mg → FnOk l.prog w K mg base (L2.CX l.prog w) 5 fa fd ["script"] (lift K (spLaw 63)) := by
  have e := hfa.symm.trans (PySem.W.mg_of X G a13)
  cases e
  have F_is_ring := fun_mk (st := s_is_ring) l0 c0 k0
  have b_is_ring := F_is_ring.binds (ps := ["rows"]) fun _ _ _ _ _ _ us hl => match us, hl with | [_], _ => rfl
  have g_is_ring := PySem.W.mg_of X G a0
  have F_excesses := fun_mk (st := s_excesses) l1 c1 k1
  have b_excesses := F_excesses.binds (ps := ["flows"]) fun _ _ _ _ _ _ us hl => match us, hl with | [_], _ => rfl
  have g_excesses := PySem.W.mg_of X G a1
  have F_next_move := fun_mk (st := s_next_move) l2 c2 k2
  have b_next_move := F_next_move.binds (ps := ["flows"]) fun _ _ _ _ _ _ us hl => match us, hl with | [_], _ => rfl
  have g_next_move := PySem.W.mg_of X G a2
  have F_to_moves := fun_mk (st := s_to_moves) l3 c3 k3
  have b_to_moves := F_to_moves.binds (ps := ["flows"]) fun _ _ _ _ _ _ us hl => match us, hl with | [_], _ => rfl
  have g_to_moves := PySem.W.mg_of X G a3
  have F_law_pool := fun_mk (st := s_law_pool) l4 c4 k4
  have b_law_pool := F_law_pool.binds (ps := ["script"]) fun _ _ _ _ _ _ us hl => match us, hl with | [_], _ => rfl
  have g_law_pool := PySem.W.mg_of X G a4
  have F_law_take := fun_mk (st := s_law_take) l5 c5 k5
  have b_law_take := F_law_take.binds (ps := ["pool", "many"]) fun _ _ _ _ _ _ us hl => match us, hl with | [_, _], _ => rfl
  have g_law_take := PySem.W.mg_of X G a5
  have F_law_is_integer := fun_mk (st := s_law_is_integer) l6 c6 k6
  have b_law_is_integer := F_law_is_integer.binds (ps := ["actual"]) fun _ _ _ _ _ _ us hl => match us, hl with | [_], _ => rfl
  have g_law_is_integer := PySem.W.mg_of X G a6
  have F_law_same := fun_mk (st := s_law_same) l7 c7 k7
  have b_law_same := F_law_same.binds (ps := ["actual", "due"]) fun _ _ _ _ _ _ us hl => match us, hl with | [_, _], _ => rfl
  have g_law_same := PySem.W.mg_of X G a7
  have F_law_excesses := fun_mk (st := s_law_excesses) l8 c8 k8
  have b_law_excesses := F_law_excesses.binds (ps := ["flows"]) fun _ _ _ _ _ _ us hl => match us, hl with | [_], _ => rfl
  have g_law_excesses := PySem.W.mg_of X G a8
  have F_law_laid := fun_mk (st := s_law_laid) l9 c9 k9
  have b_law_laid := F_law_laid.binds (ps := ["flows", "moves"]) fun _ _ _ _ _ _ us hl => match us, hl with | [_, _], _ => rfl
  have g_law_laid := PySem.W.mg_of X G a9
  have F_law_due := fun_mk (st := s_law_due) l10 c10 k10
  have b_law_due := F_law_due.binds (ps := ["flows"]) fun _ _ _ _ _ _ us hl => match us, hl with | [_], _ => rfl
  have g_law_due := PySem.W.mg_of X G a10
  have F_law_sides_so := fun_mk (st := s_law_sides_so) l11 c11 k11
  have b_law_sides_so := F_law_sides_so.binds (ps := ["flows", "moves"]) fun _ _ _ _ _ _ us hl => match us, hl with | [_, _], _ => rfl
  have g_law_sides_so := PySem.W.mg_of X G a11
  have F_law_refused := fun_mk (st := s_law_refused) l12 c12 k12
  have b_law_refused := F_law_refused.binds (ps := ["flows"]) fun _ _ _ _ _ _ us hl => match us, hl with | [_], _ => rfl
  have g_law_refused := PySem.W.mg_of X G a12
  have F_law := fun_mk (st := s_law) l13 c13 k13
  have te_BadFlows := exm_own eC_BadFlows isC_BadFlows tC_BadFlows sC_BadFlows
  have gC_BadFlows := PySem.W.mg_of X G aC_BadFlows
  have te_AllUsed := exm_own eC_AllUsed isC_AllUsed tC_AllUsed sC_AllUsed
  have gC_AllUsed := PySem.W.mg_of X G aC_AllUsed
  have tf_BadFlows_AllUsed := exm_not eC_AllUsed isC_AllUsed tC_AllUsed sF_BadFlows_AllUsed
  have c_FEWEST_PORTS := PySem.W.mg_of X G ac_FEWEST_PORTS
  have r_FEWEST_PORTS : RelV (.int 2) (.int 2 tc_FEWEST_PORTS) := ⟨_, rfl⟩
  have e_FEWEST_PORTS : ∀ Z H, Rep K Z H (.int 2) (.int 2) := fun _ _ => rfl
  have c_MOST_PORTS := PySem.W.mg_of X G ac_MOST_PORTS
  have r_MOST_PORTS : RelV (.int 24) (.int 24 tc_MOST_PORTS) := ⟨_, rfl⟩
  have e_MOST_PORTS : ∀ Z H, Rep K Z H (.int 24) (.int 24) := fun _ _ => rfl
  have m_abs := PySem.W.mg_none_of X G z_abs
  have m_all := PySem.W.mg_none_of X G z_all
  have m_bool := PySem.W.mg_none_of X G z_bool
  have m_enumerate := PySem.W.mg_none_of X G z_enumerate
  have m_int := PySem.W.mg_none_of X G z_int
  have m_isinstance := PySem.W.mg_none_of X G z_isinstance
  have m_len := PySem.W.mg_none_of X G z_len
  have m_list := PySem.W.mg_none_of X G z_list
  have m_min := PySem.W.mg_none_of X G z_min
  have m_range := PySem.W.mg_none_of X G z_range
  have m_str := PySem.W.mg_none_of X G z_str
  have m_tuple := PySem.W.mg_none_of X G z_tuple
  refine ⟨PySem.W.fnOf "law" "law" (defArgs s_law) (defBody s_law) (defScope s_law) .none kV13 dc13 pm13 an13 cd13 ct13, fun s v => .of_eq rfl, fun base _ _ => ?_⟩
  have G_ring : FnOk l.prog w K mg base (L2.CX l.prog w) 1 f0 (PySem.W.fnOf "is_ring" "is_ring" (defArgs s_is_ring) (defBody s_is_ring) (defScope s_is_ring) .none kV0 dc0 pm0 an0 cd0 ct0) ["rows"] (lift K (sp_ring)) := ok_is_ring (k := 0) F_is_ring m_len c_FEWEST_PORTS r_FEWEST_PORTS e_FEWEST_PORTS c_MOST_PORTS r_MOST_PORTS e_MOST_PORTS len_ring word_ring
  have G_exc : FnOk l.prog w K mg base (L2.CX l.prog w) 1 f1 (PySem.W.fnOf "excesses" "excesses" (defArgs s_excesses) (defBody s_excesses) (defScope s_excesses) .none kV1 dc1 pm1 an1 cd1 ct1) ["flows"] (lift K (sp_exc)) := ok_excesses (k := 0) F_excesses m_enumerate len_exc word_exc
  have G_nm : FnOk l.prog w K mg base (L2.CX l.prog w) 2 f2 (PySem.W.fnOf "next_move" "next_move" (defArgs s_next_move) (defBody s_next_move) (defScope s_next_move) .none kV2 dc2 pm2 an2 cd2 ct2) ["flows"] (lift K (sp_nm)) := ok_next_move (k := 1) F_next_move G_exc g_excesses k1 b_excesses (by decide) m_abs m_len m_min m_range len_nm word_nm
  have G_tm : FnOk l.prog w K mg base (L2.CX l.prog w) 3 f3 (PySem.W.fnOf "to_moves" "to_moves" (defArgs s_to_moves) (defBody s_to_moves) (defScope s_to_moves) .none kV3 dc3 pm3 an3 cd3 ct3) ["flows"] (lift K (sp_tm C_BadFlows C_AllUsed)) := ok_to_moves (k := 2) F_to_moves G_ring g_is_ring k0 b_is_ring (by decide) G_nm g_next_move k2 b_next_move (by decide) m_list m_tuple q_BadFlows gC_BadFlows kC_BadFlows eC_BadFlows tC_BadFlows q_AllUsed gC_AllUsed kC_AllUsed eC_AllUsed tC_AllUsed len_tm word_tm
  have G_law_pool : FnOk l.prog w K mg base (L2.CX l.prog w) 1 f4 (PySem.W.fnOf "_law_pool" "_law_pool" (defArgs s_law_pool) (defBody s_law_pool) (defScope s_law_pool) .none kV4 dc4 pm4 an4 cd4 ct4) ["script"] (lift K (sp_pool)) := ok_law_pool (k := 0) F_law_pool  len_law_pool word_pool
  have G_take0 : FnOk l.prog w K mg base (L2.CX l.prog w) 0 f5 (PySem.W.fnOf "_law_take" "_law_take" (defArgs s_law_take) (defBody s_law_take) (defScope s_law_take) .none kV5 dc5 pm5 an5 cd5 ct5) ["pool", "many"] (lift K (spNone)) := fn_none
  have G_take1 : FnOk l.prog w K mg base (L2.CX l.prog w) 1 f5 (PySem.W.fnOf "_law_take" "_law_take" (defArgs s_law_take) (defBody s_law_take) (defScope s_law_take) .none kV5 dc5 pm5 an5 cd5 ct5) ["pool", "many"] (lift K (sp_take1)) := ok_law_take (k := 0) F_law_take G_take0 g_law_take k5 b_law_take (by decide) m_int m_len len_take1 word_take1
  have G_take : FnOk l.prog w K mg base (L2.CX l.prog w) 2 f5 (PySem.W.fnOf "_law_take" "_law_take" (defArgs s_law_take) (defBody s_law_take) (defScope s_law_take) .none kV5 dc5 pm5 an5 cd5 ct5) ["pool", "many"] (lift K (sp_take)) := ok_law_take (k := 1) F_law_take G_take1 g_law_take k5 b_law_take (by decide) m_int m_len len_take word_take
  have G_isint : FnOk l.prog w K mg base (L2.CX l.prog w) 1 f6 (PySem.W.fnOf "_law_is_integer" "_law_is_integer" (defArgs s_law_is_integer) (defBody s_law_is_integer) (defScope s_law_is_integer) .none kV6 dc6 pm6 an6 cd6 ct6) ["actual"] (lift K (sp_int)) := ok_law_is_integer (k := 0) F_law_is_integer m_bool m_int m_isinstance len_isint word_int
  have G_same0 : FnOk l.prog w K mg base (L2.CX l.prog w) 0 f7 (PySem.W.fnOf "_law_same" "_law_same" (defArgs s_law_same) (defBody s_law_same) (defScope s_law_same) .none kV7 dc7 pm7 an7 cd7 ct7) ["actual", "due"] (lift K (spNone)) := fn_none
  have G_same1 : FnOk l.prog w K mg base (L2.CX l.prog w) 2 f7 (PySem.W.fnOf "_law_same" "_law_same" (defArgs s_law_same) (defBody s_law_same) (defScope s_law_same) .none kV7 dc7 pm7 an7 cd7 ct7) ["actual", "due"] (lift K (sp_same 1)) := ok_law_same (k := 1) F_law_same G_same0 g_law_same k7 b_law_same (by decide) G_isint g_law_is_integer k6 b_law_is_integer (by decide) m_all m_bool m_isinstance m_len m_list m_range m_str m_tuple len_same1 word_same
  have G_same2 : FnOk l.prog w K mg base (L2.CX l.prog w) 3 f7 (PySem.W.fnOf "_law_same" "_law_same" (defArgs s_law_same) (defBody s_law_same) (defScope s_law_same) .none kV7 dc7 pm7 an7 cd7 ct7) ["actual", "due"] (lift K (sp_same 2)) := ok_law_same (k := 2) F_law_same G_same1 g_law_same k7 b_law_same (by decide) G_isint g_law_is_integer k6 b_law_is_integer (by decide) m_all m_bool m_isinstance m_len m_list m_range m_str m_tuple len_same2 word_same
  have G_same : FnOk l.prog w K mg base (L2.CX l.prog w) 4 f7 (PySem.W.fnOf "_law_same" "_law_same" (defArgs s_law_same) (defBody s_law_same) (defScope s_law_same) .none kV7 dc7 pm7 an7 cd7 ct7) ["actual", "due"] (lift K (sp_same 3)) := ok_law_same (k := 3) F_law_same G_same2 g_law_same k7 b_law_same (by decide) G_isint g_law_is_integer k6 b_law_is_integer (by decide) m_all m_bool m_isinstance m_len m_list m_range m_str m_tuple len_same word_same
  have G_lexc : FnOk l.prog w K mg base (L2.CX l.prog w) 1 f8 (PySem.W.fnOf "_law_excesses" "_law_excesses" (defArgs s_law_excesses) (defBody s_law_excesses) (defScope s_law_excesses) .none kV8 dc8 pm8 an8 cd8 ct8) ["flows"] (lift K (sp_exc)) := ok_law_excesses (k := 0) F_law_excesses m_len m_range len_lexc word_lexc
  have G_laid : FnOk l.prog w K mg base (L2.CX l.prog w) 1 f9 (PySem.W.fnOf "_law_laid" "_law_laid" (defArgs s_law_laid) (defBody s_law_laid) (defScope s_law_laid) .none kV9 dc9 pm9 an9 cd9 ct9) ["flows", "moves"] (lift K (sp_laid)) := ok_law_laid (k := 0) F_law_laid m_len m_range m_tuple len_laid word_laid
  have G_due : FnOk l.prog w K mg base (L2.CX l.prog w) 2 f10 (PySem.W.fnOf "_law_due" "_law_due" (defArgs s_law_due) (defBody s_law_due) (defScope s_law_due) .none kV10 dc10 pm10 an10 cd10 ct10) ["flows"] (lift K (sp_due)) := ok_law_due (k := 1) F_law_due G_lexc g_law_excesses k8 b_law_excesses (by decide) m_abs m_len m_list m_min m_range m_tuple len_due word_due
  have G_sides : FnOk l.prog w K mg base (L2.CX l.prog w) 2 f11 (PySem.W.fnOf "_law_sides_so" "_law_sides_so" (defArgs s_law_sides_so) (defBody s_law_sides_so) (defScope s_law_sides_so) .none kV11 dc11 pm11 an11 cd11 ct11) ["flows", "moves"] (lift K (sp_sides)) := ok_law_sides_so (k := 1) F_law_sides_so G_lexc g_law_excesses k8 b_law_excesses (by decide) m_all len_sides word_sides
  have G_rf : FnOk l.prog w K mg base (L2.CX l.prog w) 4 f12 (PySem.W.fnOf "_law_refused" "_law_refused" (defArgs s_law_refused) (defBody s_law_refused) (defScope s_law_refused) .none kV12 dc12 pm12 an12 cd12 ct12) ["flows"] (lift K (sp_rf C_BadFlows C_AllUsed)) := ok_law_refused (k := 3) F_law_refused G_tm g_to_moves k3 b_to_moves (by decide) te_BadFlows gC_BadFlows te_AllUsed gC_AllUsed tf_BadFlows_AllUsed len_rf word_rf
  have G_law : FnOk l.prog w K mg base (L2.CX l.prog w) 5 fa (PySem.W.fnOf "law" "law" (defArgs s_law) (defBody s_law) (defScope s_law) .none kV13 dc13 pm13 an13 cd13 ct13) ["script"] (lift K (spLaw 63)) := ok_law (k := 4) F_law G_law_pool g_law_pool k4 b_law_pool (by decide) G_take g_law_take k5 b_law_take (by decide) G_tm g_to_moves k3 b_to_moves (by decide) G_same g_law_same k7 b_law_same (by decide) G_due g_law_due k10 b_law_due (by decide) G_laid g_law_laid k9 b_law_laid (by decide) G_sides g_law_sides_so k11 b_law_sides_so (by decide) G_rf g_law_refused k12 b_law_refused (by decide) m_len m_range m_tuple len_law word_law
  exact G_law
theorem no_exc {P : Program} {w : World} {H : Hp} {s : Shared} {e : Value} {s2 : Shared} (h : L2.CX P w [] H s (fun _ _ _ => False) e s2) : False := by
  obtain ⟨_, _, _, _, _, _, _, _, _, _, _, _, hE⟩ := h
  exact hE
end Qk68
open PySem PySem.W PyProof.Rows
set_option maxHeartbeats 0 in
theorem PySem.Challenge.cw_quaybest_k68_moves_holds : PySem.Challenge.rw_quaybest_k68_moves.Holds := by
  w_on; o_law; k_head; (case hw => w_witness2)
  k_fill
  refine L2.walk_of (l := PySem.Challenge.rw_quaybest_k68_moves) (n := 63) (k := 5) (x := "script") (CX := fun w => L2.CX PySem.Challenge.rw_quaybest_k68_moves.prog w) (sp := fun w => DL.lift _ (DL.spLaw 63)) rfl (by decide) rfl ⟨rfl, by decide, by decide⟩ (fun w h Y => PySem.W.kIn_of Y) ?F (fun _ _ a ns hl _ hS => DL.law_sp hl hS _) (fun _ _ _ _ _ z => Qk68.no_exc z)
  case F =>
    intro w mg fa h KX G hmg
    refine' Qk68.all_mk KX G hmg ?a0 ?l0 ?c0 ?k0 ?a1 ?l1 ?c1 ?k1 ?a2 ?l2 ?c2 ?k2 ?a3 ?l3 ?c3 ?k3 ?a4 ?l4 ?c4 ?k4 ?a5 ?l5 ?c5 ?k5 ?a6 ?l6 ?c6 ?k6 ?a7 ?l7 ?c7 ?k7 ?a8 ?l8 ?c8 ?k8 ?a9 ?l9 ?c9 ?k9 ?a10 ?l10 ?c10 ?k10 ?a11 ?l11 ?c11 ?k11 ?a12 ?l12 ?c12 ?k12 ?a13 ?l13 ?c13 ?k13 ?ac_FEWEST_PORTS ?ac_MOST_PORTS ?aC_BadFlows ?q_BadFlows ?kC_BadFlows ?eC_BadFlows ?tC_BadFlows ?isC_BadFlows ?sC_BadFlows ?aC_AllUsed ?q_AllUsed ?kC_AllUsed ?eC_AllUsed ?tC_AllUsed ?isC_AllUsed ?sC_AllUsed ?sF_BadFlows_AllUsed ?z_abs ?z_all ?z_bool ?z_enumerate ?z_int ?z_isinstance ?z_len ?z_list ?z_min ?z_range ?z_str ?z_tuple
    (case a0 => k_is); (case l0 => k_is); (case c0 => k_is); (case k0 => k_is); (case a1 => k_is); (case l1 => k_is); (case c1 => k_is); (case k1 => k_is)
    (case a2 => k_is); (case l2 => k_is); (case c2 => k_is); (case k2 => k_is); (case a3 => k_is); (case l3 => k_is); (case c3 => k_is); (case k3 => k_is)
    (case a4 => k_is); (case l4 => k_is); (case c4 => k_is); (case k4 => k_is); (case a5 => k_is); (case l5 => k_is); (case c5 => k_is); (case k5 => k_is)
    (case a6 => k_is); (case l6 => k_is); (case c6 => k_is); (case k6 => k_is); (case a7 => k_is); (case l7 => k_is); (case c7 => k_is); (case k7 => k_is)
    (case a8 => k_is); (case l8 => k_is); (case c8 => k_is); (case k8 => k_is); (case a9 => k_is); (case l9 => k_is); (case c9 => k_is); (case k9 => k_is)
    (case a10 => k_is); (case l10 => k_is); (case c10 => k_is); (case k10 => k_is); (case a11 => k_is); (case l11 => k_is); (case c11 => k_is); (case k11 => k_is)
    (case a12 => k_is); (case l12 => k_is); (case c12 => k_is); (case k12 => k_is); (case a13 => k_is); (case l13 => k_is); (case c13 => k_is); (case k13 => k_is)
    (case ac_FEWEST_PORTS => k_is); (case ac_MOST_PORTS => k_is); (case aC_BadFlows => k_is); (case q_BadFlows => first | kernel_rfl | decide +kernel); (case kC_BadFlows => k_is); (case eC_BadFlows => k_is); (case tC_BadFlows => k_is); (case isC_BadFlows => k_is)
    (case sC_BadFlows => first | rfl | k_is); (case aC_AllUsed => k_is); (case q_AllUsed => first | kernel_rfl | decide +kernel); (case kC_AllUsed => k_is); (case eC_AllUsed => k_is); (case tC_AllUsed => k_is); (case isC_AllUsed => k_is); (case sC_AllUsed => first | rfl | k_is)
    (case sF_BadFlows_AllUsed => k_is); (case z_abs => k_is); (case z_all => k_is); (case z_bool => k_is); (case z_enumerate => k_is); (case z_int => k_is); (case z_isinstance => k_is); (case z_len => k_is)
    (case z_list => k_is); (case z_min => k_is); (case z_range => k_is); (case z_str => k_is); (case z_tuple => k_is)
