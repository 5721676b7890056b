import PyProof.Rows.All
import Wide.All
import OpenK.AllK
import Wide.FinOn
import HandS.ForMost
import HandS.Exc
import HandS.ExcOwn
import HandS.ExcIs
import HandS.WordsExc
import HandS.TryOnly
import HandS.IsInst
import HandS.Text
import HandS.WideBits
import HandS.Style
import KE.KxField
import PyProof.FString3
import PyProof.FactsAll.int_2
import HandS.Walk
import HandS.SortInts
import HandS.SetKeys
import HandS.Rev
import HandS.RevRange
import HandS.Conv
import HandS.Defaults
import HandS.Head0
import HandS.Head1
import HandS.Head2
import HandS.HeadEnd
import HandS.HeadHook1
import HandS.HeadHook2
import KE.KStateDown
import KE.BitLaws
import PyProof.StrLawsIn
import PyProof.StrLawsOcc
import PyProof.Rows.StrBin
import PySem.Challenge.RW_finesse_k27_boards_compared
set_option Elab.async false
set_option linter.all false
set_option maxRecDepth 100000
set_option maxHeartbeats 0
/-! Fin 1: data, cells, what a state of the program stands for. -/
namespace Fin
open PySem PySem.Spec PyProof.Rows L2

abbrev D := PyData
/-- all that H knows, H' knows -/
def Sub (H H' : Hp) : Prop := ∀ a o, H a = some o → H' a = some o
theorem Sub.refl (H : Hp) : Sub H H := fun _ _ h => h
theorem Sub.trans {H H1 H2 : Hp} (a : Sub H H1) (b : Sub H1 H2) : Sub H H2 := fun x o h => b x o (a x o h)
theorem ne_nn {H : Hp} {a p : Addr} (h : H a ≠ none) (hp : H p = none) : a ≠ p := fun q => h (by rw [q]; exact hp)
theorem Sub.new {H : Hp} {p : Addr} {o : HO} (h : H p = none) : Sub H (upd H p o) := fun a u e => by
  rw [upd_ne (ne_of_none e h)]; exact e
theorem Sub.upd2 {S H : Hp} {p : Addr} {o : HO} (h : Sub S H) : Sub (upd S p o) (upd H p o) := fun a u e => by
  unfold upd at *
  split at e
  · rename_i q; rw [if_pos q]; exact e
  · rename_i q; rw [if_neg q]; exact h a u e

theorem sq_sub {K : PySem.W.Frag} {S S' : Hp} {a : Addr} {xs : List V} (e : Sub S S') (h : SqL K S a xs) : SqL K S' a xs := Same.seq e h
theorem sqT_sub {K : PySem.W.Frag} {S S' : Hp} {a : Addr} {xs : List V} (e : Sub S S') (h : SqT K S a xs) : SqT K S' a xs := by
  rcases h with (h | ⟨o, h⟩) | h
  · exact .inl (.inl (e _ _ h))
  · exact .inl (.inr ⟨o, e _ _ h⟩)
  · exact .inr h
mutual
/-- v stands for d, read in the part S of the heap that nobody changes -/
inductive Rp (K : PySem.W.Frag) (S : Hp) : V → D → Prop
  | non : Rp K S .non .none
  | bl (b : Bool) : Rp K S (.bl b) (.bool b)
  | int (i : Int) : Rp K S (.int i) (.int i)
  | str (x : Str) : Rp K S (.str x) (.str x)
  | lst {a : Addr} {xs : List V} {ds : List D} : S a = some (.lst xs) → RpAll K S xs ds → Rp K S (.ref a) (.list ds)
  | fl {a : Addr} {xs : List V} {ds : List D} : SqL K S a xs → RpAll K S xs ds → Rp K S (.ref a) (.dict [(.none, .list ds)])
  | tup {a : Addr} {xs : List V} {ds : List D} : SqT K S a xs → RpAll K S xs ds → Rp K S (.ref a) (.tuple ds)
inductive RpAll (K : PySem.W.Frag) (S : Hp) : List V → List D → Prop
  | nil : RpAll K S [] []
  | cons {v : V} {vs : List V} {d : D} {ds : List D} : Rp K S v d → RpAll K S vs ds → RpAll K S (v :: vs) (d :: ds)
end
mutual
theorem Rp.mono {K : PySem.W.Frag} {S S' : Hp} (e : Sub S S') : ∀ {v : V} {d : D}, Rp K S v d → Rp K S' v d
  | _, _, .non => .non
  | _, _, .bl b => .bl b
  | _, _, .int i => .int i
  | _, _, .str x => .str x
  | _, _, .lst h r => .lst (e _ _ h) (RpAll.mono e r)
  | _, _, .fl h r => .fl (sq_sub e h) (RpAll.mono e r)
  | _, _, .tup h r => .tup (sqT_sub e h) (RpAll.mono e r)
theorem RpAll.mono {K : PySem.W.Frag} {S S' : Hp} (e : Sub S S') : ∀ {vs : List V} {ds : List D}, RpAll K S vs ds → RpAll K S' vs ds
  | _, _, .nil => .nil
  | _, _, .cons h r => .cons (Rp.mono e h) (RpAll.mono e r)
end
mutual
theorem Rp.dp {K : PySem.W.Frag} {S : Hp} : ∀ {v : V} {d : D}, Rp K S v d → d.canLay0 = true → Dp K S v d
  | _, _, .non, _ => .non
  | _, _, .bl b, _ => .bl b
  | _, _, .int i, _ => .int i
  | _, _, .str x, _ => .str x
  | _, _, .lst h r, c => .lst (SqL.of h) (RpAll.dp r (by simpa [PyData.canLay0] using c))
  | _, _, .tup h r, c => .tup h (RpAll.dp r (by simpa [PyData.canLay0] using c))
  | _, _, .fl _ _, c => by simp [PyData.canLay0] at c
theorem RpAll.dp {K : PySem.W.Frag} {S : Hp} : ∀ {vs : List V} {ds : List D}, RpAll K S vs ds → PyData.canLayAll0 ds = true → DpAll K S vs ds
  | _, _, .nil, _ => .nil
  | _, _, .cons h r, c => by
    simp [PyData.canLayAll0] at c
    exact .cons (Rp.dp h c.1) (RpAll.dp r c.2)
end
theorem RpAll.length {K : PySem.W.Frag} {S : Hp} : ∀ {vs : List V} {ds : List D}, RpAll K S vs ds → vs.length = ds.length
  | _, _, .nil => rfl
  | _, _, .cons _ r => by rw [List.length_cons, List.length_cons, RpAll.length r]
theorem RpAll.get {K : PySem.W.Frag} {S : Hp} : ∀ {vs : List V} {ds : List D} {i : Nat} {d : D}, RpAll K S vs ds → ds[i]? = some d → ∃ v, vs[i]? = some v ∧ Rp K S v d
  | _, _, _, _, .nil, e => by simp at e
  | _, _, 0, _, .cons h _, e => by simp at e; subst e; exact ⟨_, rfl, h⟩
  | _, _, i + 1, d, .cons _ r, e => by
    obtain ⟨v, h1, h2⟩ := RpAll.get (i := i) (d := d) r (by simpa using e)
    exact ⟨v, by simpa using h1, h2⟩
theorem RpAll.get' {K : PySem.W.Frag} {S : Hp} : ∀ {vs : List V} {ds : List D} {i : Nat} {v : V}, RpAll K S vs ds → vs[i]? = some v → ∃ d, ds[i]? = some d ∧ Rp K S v d
  | _, _, _, _, .nil, e => by simp at e
  | _, _, 0, _, .cons h _, e => by simp at e; subst e; exact ⟨_, rfl, h⟩
  | _, _, i + 1, d, .cons _ r, e => by
    obtain ⟨v, h1, h2⟩ := RpAll.get' (i := i) r (by simpa using e)
    exact ⟨v, by simpa using h1, h2⟩
theorem RpAll.append {K : PySem.W.Frag} {S : Hp} : ∀ {vs : List V} {ds : List D} {ws : List V} {es : List D}, RpAll K S vs ds → RpAll K S ws es → RpAll K S (vs ++ ws) (ds ++ es)
  | _, _, _, _, .nil, q => q
  | _, _, _, _, .cons h r, q => .cons h (RpAll.append r q)
theorem RpAll.take {K : PySem.W.Frag} {S : Hp} : ∀ {vs : List V} {ds : List D} (n : Nat), RpAll K S vs ds → RpAll K S (vs.take n) (ds.take n)
  | _, _, 0, _ => .nil
  | _, _, _ + 1, .nil => .nil
  | _, _, n + 1, .cons h r => .cons h (RpAll.take n r)
theorem RpAll.drop {K : PySem.W.Frag} {S : Hp} : ∀ {vs : List V} {ds : List D} (n : Nat), RpAll K S vs ds → RpAll K S (vs.drop n) (ds.drop n)
  | _, _, 0, r => r
  | _, _, _ + 1, .nil => .nil
  | _, _, n + 1, .cons _ r => RpAll.drop n r
theorem RpAll.set {K : PySem.W.Frag} {S : Hp} {v : V} {d : D} (q : Rp K S v d) : ∀ {vs : List V} {ds : List D} (i : Nat), RpAll K S vs ds → RpAll K S (vs.set i v) (ds.set i d)
  | _, _, _, .nil => .nil
  | _, _, 0, .cons _ r => .cons q r
  | _, _, i + 1, .cons h r => .cons h (RpAll.set q i r)
theorem RpAll.eraseIdx {K : PySem.W.Frag} {S : Hp} : ∀ {vs : List V} {ds : List D} (i : Nat), RpAll K S vs ds → RpAll K S (vs.eraseIdx i) (ds.eraseIdx i)
  | _, _, _, .nil => .nil
  | _, _, 0, .cons _ r => r
  | _, _, i + 1, .cons h r => .cons h (RpAll.eraseIdx i r)
theorem RpAll.snoc {K : PySem.W.Frag} {S : Hp} {v : V} {d : D} {vs : List V} {ds : List D} (r : RpAll K S vs ds) (q : Rp K S v d) : RpAll K S (vs ++ [v]) (ds ++ [d]) := r.append (.cons q .nil)
theorem RpAll.reverse {K : PySem.W.Frag} {S : Hp} : ∀ {vs : List V} {ds : List D}, RpAll K S vs ds → RpAll K S vs.reverse ds.reverse
  | _, _, .nil => .nil
  | _, _, .cons h r => by rw [List.reverse_cons, List.reverse_cons]; exact (RpAll.reverse r).snoc h
theorem RpAll.ints {K : PySem.W.Frag} {S : Hp} : ∀ {vs : List V} {ns : List Int}, RpAll K S vs (ns.map PyData.int) → vs = ns.map V.int
  | [], [], _ => rfl
  | [], _ :: _, h => nomatch h
  | _ :: _, [], h => nomatch h
  | _ :: _, _ :: _, .cons h r => by cases h; rw [List.map_cons, RpAll.ints r]
theorem RpAll.of_ints {K : PySem.W.Frag} {S : Hp} : ∀ (ns : List Int), RpAll K S (ns.map V.int) (ns.map PyData.int)
  | [] => .nil
  | n :: ns => .cons (.int n) (RpAll.of_ints ns)
theorem RpAll.strs {K : PySem.W.Frag} {S : Hp} : ∀ {vs : List V} {ns : List Str}, RpAll K S vs (ns.map PyData.str) → vs = ns.map V.str
  | [], [], _ => rfl
  | [], _ :: _, h => nomatch h
  | _ :: _, [], h => nomatch h
  | _ :: _, _ :: _, .cons h r => by cases h; rw [List.map_cons, RpAll.strs r]
theorem RpAll.of_strs {K : PySem.W.Frag} {S : Hp} : ∀ (ns : List Str), RpAll K S (ns.map V.str) (ns.map PyData.str)
  | [] => .nil
  | n :: ns => .cons (.str n) (RpAll.of_strs ns)

/-- a dict's pairs -/
def KvR (K : PySem.W.Frag) (S : Hp) : List (Key × V) → List (Key × D) → Prop := Paired fun p q => p.1 = q.1 ∧ Rp K S p.2 q.2
theorem KvR.mono {K : PySem.W.Frag} {S S' : Hp} (e : Sub S S') {xs : List (Key × V)} {ys : List (Key × D)} (h : KvR K S xs ys) : KvR K S' xs ys := Paired.mapP h fun _ _ q => ⟨q.1, q.2.mono e⟩

/-- what a slot holds: a value that nobody changes, or an object that the slot alone holds -/
inductive Cell where
  | val (d : D)
  | lst (xs : List D)
  | dic (kvs : List (Key × D))
  | exc (c : Str)
  | scr (ns : List Int)
/-- what stands beside the heap: which exception is handled, what the first slot is bound to hold -/
structure Xc where
  r : Addr → Str → Prop
  p0 : Option V
inductive CellR (K : PySem.W.Frag) (ex : Addr → Str → Prop) (S H : Hp) : V → Cell → List Addr → Prop
  | val {v : V} {d : D} : Rp K S v d → CellR K ex S H v (.val d) []
  | lst {a : Addr} {vs : List V} {xs : List D} : H a = some (.lst vs) → RpAll K S vs xs → CellR K ex S H (.ref a) (.lst xs) [a]
  | dic {a : Addr} {vs : List (Key × V)} {xs : List (Key × D)} : H a = some (.dK vs) → KvR K S vs xs → CellR K ex S H (.ref a) (.dic xs) [a]
  | exc {a : Addr} {c : Str} : ex a c → CellR K ex S H (.ref a) (.exc c) []
  | scr {a : Addr} {ns : List Int} : SqL K S a (ns.map V.int) → CellR K ex S H (.ref a) (.scr ns) []
theorem CellR.mono {K : PySem.W.Frag} {ex : Addr → Str → Prop} {S S' H H' : Hp} {v : V} {c : Cell} {fp : List Addr} (e : Sub S S') (h : CellR K ex S H v c fp) (k : ∀ a ∈ fp, ∀ o, H a = some o → H' a = some o) : CellR K ex S' H' v c fp := by
  cases h with
  | val q => exact .val (q.mono e)
  | lst q r => exact .lst (k _ (by simp) _ q) (r.mono e)
  | dic q r => exact .dic (k _ (by simp) _ q) (r.mono e)
  | exc q => exact .exc q
  | scr q => exact .scr (sq_sub e q)
abbrev Env := List (Option Cell)

structure EnvR (K : PySem.W.Frag) (ex : Xc) (S : Hp) (O : Addr → Prop) (H : Hp) (σ : L2.St) (env : Env) (fp : Nat → List Addr) : Prop where
  sub : Sub S H
  len : env.length = σ.length
  at_ : ∀ (i : Nat) (c : Cell), env[i]? = some (some c) → ∃ v, σ[i]? = some (some v) ∧ CellR K ex.r S H v c (fp i)
  dj : ∀ i j a, a ∈ fp i → a ∈ fp j → i = j
  ow : ∀ i a, a ∈ fp i → O a
  out : ∀ a, O a → S a = none ∧ H a ≠ none
  p0 : ∀ v, ex.p0 = some v → σ[0]? = some (some v)

/-- how a part of a run changes the heap: S grows, what is not ours stays -/
structure Step (S : Hp) (O : Addr → Prop) (H S' : Hp) (O' : Addr → Prop) (H' : Hp) : Prop where
  ss : Sub S S'
  fr : ∀ a o, H a = some o → ¬ O a → H' a = some o
  gs : ∀ a, H a ≠ none → ¬ O a → S a = none → S' a = none
  go : ∀ a, O' a → O a ∨ H a = none
  al : ∀ a, H a ≠ none → H' a ≠ none
theorem Step.refl {S : Hp} {O : Addr → Prop} {H : Hp} : Step S O H S O H := ⟨Sub.refl S, fun _ _ h _ => h, fun _ _ _ h => h, fun _ h => .inl h, fun _ h => h⟩
theorem Step.trans {S S1 S2 H H1 H2 : Hp} {O O1 O2 : Addr → Prop} (a : Step S O H S1 O1 H1) (b : Step S1 O1 H1 S2 O2 H2) : Step S O H S2 O2 H2 := by
  have no : ∀ x, H x ≠ none → ¬ O x → ¬ O1 x := fun x h n z => (a.go x z).elim n h
  refine ⟨a.ss.trans b.ss, fun x o h n => b.fr x o (a.fr x o h n) (no x (by rw [h]; simp) n), fun x h n z => b.gs x (a.al x h) (no x h n) (a.gs x h n z), fun x h => ?_, fun x h => b.al x (a.al x h)⟩
  rcases b.go x h with z | z
  · exact a.go x z
  · refine .inr ?_
    cases q : H x with
    | none => rfl
    | some o => exact absurd z (a.al x (by rw [q]; simp))

section
variable {K : PySem.W.Frag} {ex : Xc} {S S' H H' : Hp} {O O' : Addr → Prop} {σ : L2.St} {env : Env} {fp : Nat → List Addr}
/-- the heap changes elsewhere -/
theorem EnvR.other (h : EnvR K ex S O H σ env fp) (ss : Sub S S') (sh : Sub S' H') (k : ∀ i a o, a ∈ fp i → H a = some o → H' a = some o) (ow : ∀ i a, a ∈ fp i → O' a) (out : ∀ a, O' a → S' a = none ∧ H' a ≠ none) : EnvR K ex S' O' H' σ env fp :=
  ⟨sh, h.len, fun i c e => by
    obtain ⟨v, e1, r⟩ := h.at_ i c e
    exact ⟨v, e1, r.mono ss fun a ha o q => k i a o ha q⟩, h.dj, ow, out, h.p0⟩
/-- a new object that nobody will change -/
theorem Step.allocS {p : Addr} {o : HO} (hp : H p = none) (sub : Sub S H) : Step S O H (upd S p o) O (upd H p o) := by
  have hs : S p = none := by
    cases q : S p with
    | none => rfl
    | some u => rw [sub p u q] at hp; cases hp
  refine ⟨Sub.new hs, fun a u e _ => Sub.new hp a u e, fun a h _ z => ?_, fun a h => .inl h, fun a h => ?_⟩
  · rw [upd_ne (ne_nn h hp)]; exact z
  · rw [upd_ne (ne_nn h hp)]; exact h
theorem EnvR.allocS (h : EnvR K ex S O H σ env fp) {p : Addr} {o : HO} (hp : H p = none) : EnvR K ex (upd S p o) O (upd H p o) σ env fp := by
  have hs : S p = none := by
    cases q : S p with
    | none => rfl
    | some u => rw [h.sub p u q] at hp; cases hp
  refine h.other (Sub.new hs) h.sub.upd2 (fun i a u _ e => Sub.new hp a u e) h.ow fun a z => ?_
  obtain ⟨z1, z2⟩ := h.out a z
  have ne : a ≠ p := ne_nn z2 hp
  exact ⟨by rw [upd_ne ne]; exact z1, by rw [upd_ne ne]; exact z2⟩
/-- a new object of our own -/
theorem Step.allocO {p : Addr} {o : HO} (hp : H p = none) : Step S O H S (fun a => O a ∨ a = p) (upd H p o) := by
  refine ⟨Sub.refl S, fun a u e _ => Sub.new hp a u e, fun a _ _ z => z, fun a h => h.elim .inl fun q => .inr (by rw [q]; exact hp), fun a h => ?_⟩
  rw [upd_ne (ne_nn h hp)]; exact h
theorem EnvR.allocO (h : EnvR K ex S O H σ env fp) {p : Addr} {o : HO} (hp : H p = none) : EnvR K ex S (fun a => O a ∨ a = p) (upd H p o) σ env fp := by
  refine h.other (Sub.refl S) (h.sub.trans (Sub.new hp)) (fun i a u _ e => Sub.new hp a u e) (fun i a z => .inl (h.ow i a z)) fun a z => ?_
  rcases z with z | z
  · obtain ⟨z1, z2⟩ := h.out a z
    exact ⟨z1, by rw [upd_ne (ne_nn z2 hp)]; exact z2⟩
  · subst z
    refine ⟨?_, by rw [upd_same]; simp⟩
    cases q : S a with
    | none => rfl
    | some u => rw [h.sub a u q] at hp; cases hp
theorem EnvR.fresh (h : EnvR K ex S O H σ env fp) {p : Addr} (hp : H p = none) (i : Nat) : p ∉ fp i := fun z => (h.out p (h.ow i p z)).2 hp

/-- the slot i, as it stands, is told anew -/
theorem EnvR.put (h : EnvR K ex S O H σ env fp) {i : Nat} {x : V} {c : Cell} {fx : List Addr} (hx : σ[i]? = some (some x)) (hc : CellR K ex.r S H x c fx) (ow : ∀ a ∈ fx, O a) (dj : ∀ a ∈ fx, ∀ j, j ≠ i → a ∉ fp j) :
    EnvR K ex S O H σ (env.set i (some c)) (fun j => if j = i then fx else fp j) := by
  refine ⟨h.sub, by rw [List.length_set]; exact h.len, fun j c' e => ?_, fun j k a hj hk => ?_, fun j a hj => ?_, h.out, h.p0⟩
  · by_cases hj : j = i
    · subst hj
      rw [if_pos rfl]
      have hl : j < env.length := by
        have := (List.getElem?_eq_some_iff.mp e).1
        rwa [List.length_set] at this
      rw [List.getElem?_set_self hl] at e
      cases e
      exact ⟨x, hx, hc⟩
    · rw [if_neg hj]
      rw [List.getElem?_set_ne (Ne.symm hj)] at e
      exact h.at_ j c' e
  · by_cases h1 : j = i <;> by_cases h2 : k = i
    · rw [h1, h2]
    · simp only [h1, h2, if_true, if_false] at hj hk
      exact absurd hk (dj a hj k h2)
    · simp only [h1, h2, if_true, if_false] at hj hk
      exact absurd hj (dj a hk j h1)
    · simp only [h1, h2, if_false] at hj hk
      exact h.dj j k a hj hk
  · by_cases h1 : j = i
    · simp only [h1, if_true] at hj
      exact ow a hj
    · simp only [h1, if_false] at hj
      exact h.ow j a hj
/-- nothing is told of the slot i any more -/
theorem EnvR.drop (h : EnvR K ex S O H σ env fp) (i : Nat) : EnvR K ex S O H σ (env.set i none) (fun j => if j = i then [] else fp j) := by
  refine ⟨h.sub, by rw [List.length_set]; exact h.len, fun j c' e => ?_, fun j k a hj hk => ?_, fun j a hj => ?_, h.out, h.p0⟩
  · by_cases hj : j = i
    · subst hj
      have hl : j < env.length := by
        have := (List.getElem?_eq_some_iff.mp e).1
        rwa [List.length_set] at this
      rw [List.getElem?_set_self hl] at e
      cases e
    · rw [if_neg hj]
      rw [List.getElem?_set_ne (Ne.symm hj)] at e
      exact h.at_ j c' e
  · by_cases h1 : j = i
    · simp [h1] at hj
    · by_cases h2 : k = i
      · simp [h2] at hk
      · simp only [h1, h2, if_false] at hj hk
        exact h.dj j k a hj hk
  · by_cases h1 : j = i
    · simp [h1] at hj
    · simp only [h1, if_false] at hj
      exact h.ow j a hj
/-- the slot i is forgotten -/
theorem EnvR.forget (h : EnvR K ex S O H σ env fp) (i : Nat) (x : Option V) (hp : ex.p0 ≠ none → i ≠ 0) : EnvR K ex S O H (σ.set i x) (env.set i none) (fun j => if j = i then [] else fp j) := by
  have q := h.drop i
  refine ⟨q.sub, by rw [q.len, List.length_set], fun j c' e => ?_, q.dj, q.ow, q.out, fun v hv => ?_⟩
  · have hj : i ≠ j := fun z => by
      subst z
      have hl : i < env.length := by
        have := (List.getElem?_eq_some_iff.mp e).1
        rwa [List.length_set] at this
      rw [List.getElem?_set_self hl] at e
      cases e
    obtain ⟨v, g, rc⟩ := q.at_ j c' e
    exact ⟨v, by rw [List.getElem?_set_ne hj]; exact g, rc⟩
  · have hi : i ≠ 0 := hp (by rw [hv]; simp)
    rw [List.getElem?_set_ne hi]
    exact h.p0 v hv
/-- the slot i is stored -/
theorem EnvR.store (h : EnvR K ex S O H σ env fp) {i : Nat} {x : V} {c : Cell} {fx : List Addr} (hp : ex.p0 ≠ none → i ≠ 0) (hc : CellR K ex.r S H x c fx) (ow : ∀ a ∈ fx, O a) (dj : ∀ a ∈ fx, ∀ j, j ≠ i → a ∉ fp j) :
    EnvR K ex S O H (σ.set i (some x)) (env.set i (some c)) (fun j => if j = i then fx else fp j) := by
  by_cases hl : i < σ.length
  · have q := (h.forget i (some x) hp).put (i := i) (x := x) (c := c) (fx := fx) (List.getElem?_set_self hl) hc ow fun a ha j hj hm => by
      simp only [hj, if_false] at hm
      exact dj a ha j hj hm
    rw [List.set_set] at q
    have e : (fun j => if j = i then fx else if j = i then [] else fp j) = (fun j => if j = i then fx else fp j) := by
      funext j
      by_cases z : j = i <;> simp [z]
    rw [e] at q
    exact q
  · have e1 : σ.set i (some x) = σ := List.set_eq_of_length_le (by omega)
    have e2 : env.set i (some c) = env := List.set_eq_of_length_le (by rw [h.len]; omega)
    rw [e1, e2]
    refine ⟨h.sub, h.len, fun j c' e => ?_, fun j k a hj hk => ?_, fun j a hj => ?_, h.out, h.p0⟩
    · have hj : j ≠ i := fun z => by
        have := (List.getElem?_eq_some_iff.mp e).1
        rw [h.len] at this
        omega
      obtain ⟨v, g, rc⟩ := h.at_ j c' e
      exact ⟨v, g, by rw [if_neg hj]; exact rc⟩
    · by_cases h1 : j = i <;> by_cases h2 : k = i
      · rw [h1, h2]
      · simp only [h1, h2, if_true, if_false] at hj hk
        exact absurd hk (dj a hj k h2)
      · simp only [h1, h2, if_true, if_false] at hj hk
        exact absurd hj (dj a hk j h1)
      · simp only [h1, h2, if_false] at hj hk
        exact h.dj j k a hj hk
    · by_cases h1 : j = i
      · simp only [h1, if_true] at hj
        exact ow a hj
      · simp only [h1, if_false] at hj
        exact h.ow j a hj
/-- our object at the slot i is changed -/
theorem EnvR.change (h : EnvR K ex S O H σ env fp) {i : Nat} {p : Addr} {o : HO} {c : Cell} (hi : σ[i]? = some (some (V.ref p))) (hf : fp i = [p]) (hc : CellR K ex.r S (upd H p o) (V.ref p) c [p]) :
    Step S O H S O (upd H p o) ∧ EnvR K ex S O (upd H p o) σ (env.set i (some c)) fp := by
  have hO : O p := h.ow i p (by rw [hf]; simp)
  obtain ⟨hS, hH⟩ := h.out p hO
  refine ⟨⟨Sub.refl S, fun a u e n => ?_, fun _ _ _ z => z, fun _ z => .inl z, fun a z => ?_⟩, ?_⟩
  · rw [upd_ne (fun q => n (by rw [q]; exact hO))]; exact e
  · unfold upd; split <;> simp_all
  · refine ⟨fun a u e => ?_, by rw [List.length_set]; exact h.len, fun j c' e => ?_, h.dj, h.ow, fun a z => ⟨(h.out a z).1, ?_⟩, h.p0⟩
    · have ne : a ≠ p := fun q => by rw [q, hS] at e; cases e
      rw [upd_ne ne]; exact h.sub a u e
    · by_cases hj : j = i
      · subst hj
        have hl : j < env.length := by
          have := (List.getElem?_eq_some_iff.mp e).1
          rwa [List.length_set] at this
        rw [List.getElem?_set_self hl] at e
        cases e
        exact ⟨_, hi, by rw [hf]; exact hc⟩
      · rw [List.getElem?_set_ne (Ne.symm hj)] at e
        obtain ⟨v, e1, r⟩ := h.at_ j c' e
        refine ⟨v, e1, r.mono (Sub.refl S) fun a ha u q => ?_⟩
        have ne : a ≠ p := fun z => hj (h.dj j i a ha (by rw [hf, z]; simp))
        rw [upd_ne ne]; exact q
    · have := (h.out a z).2
      unfold upd; split <;> simp_all
end
end Fin
/-! Fin 2: the small language and what it does with data. -/
namespace Fin
open PySem PySem.Spec PyProof.Rows L2

inductive Val where
  | d (d : D) | sl (i : Nat) | fr (c : Cell)
inductive Res where
  | ok (v : Val) (env : Env) | exc (c : Str) (env : Env)
inductive RsL where
  | ok (vs : List Val) (env : Env) | exc (c : Str) (env : Env)
inductive RsI where
  | ok (ds : List D) (env : Env) | exc (c : Str) (env : Env)
inductive RsT where
  | ok (b : Bool) (env : Env) | exc (c : Str) (env : Env)
inductive PRes where
  | ok (c : Cell) | exc (c : Str)
inductive MRes where
  | ok (r : Cell) (c : Cell) | exc (e : Str) (c : Cell)
inductive Fn where
  | pure (F : List D → Option PRes)
  | mt (F : Cell → List D → Option MRes)
  | scr (F : List Int → Option Cell)
/-- what is known of the names of the text: for the run, and for what stands in memory -/
structure Fx where
  lock0 : Bool
  fns : Str → Option Fn
  cons : Str → Option D
  sub : Str → Str → Option Bool
structure Tbl where
  F : Fx
  K : PySem.W.Frag
  ex : Xc
  lk : ex.p0 ≠ none → F.lock0 = true
  cls : Str → Value
  isE : Str → Prop

inductive Bi where
  | len | abs | max | min | int | list | tuple | sorted | sum
inductive Mm where
  | append | pop
inductive Bm where
  | find | count | bits
inductive B2 where
  | index
inductive Ty where
  | int | bool | str | list | tuple
mutual
inductive E where
  | var (i : Nat) | c (d : D) | glob (x : Str)
  | bin (op : Operator) (a b : E) | un (op : UnaryOp) (a : E)
  | cmp (op : CmpOp) (a b : E) | chn (o1 o2 : CmpOp) (a b c : E)
  | and (a b : E) | or (a b : E) | not (a : E) | ite (c : Te) (a b : E)
  | tup (es : Es) | lst (es : Es) | ix (a b : E) | sl (a : E) (lo hi : Ox) | rev (a : E)
  | call (f : Str) (es : Es) | bi (f : Bi) (es : Es) | bm (m : Bm) (a : E) (es : Es) | mm (m : Mm) (i : Nat) (es : Es)
  | comp (elt : E) (i : Nat) (it : It) (cnd : Te)
  | dic0 | isx (i : Nat) (c : Str) | isi (a : E) (ty : Ty) | fb (a : E)
  | b2 (f : B2) (a b : E) | dget (a k d : E) | dset (i : Nat) (k d : E) | lsI (it : It)
inductive Te where
  | val (e : E) | and (a b : Te) | or (a b : Te) | not (a : Te)
inductive Es where
  | nil | cons (e : E) (es : Es)
inductive Ox where
  | non | some (e : E)
inductive It where
  | seq (e : E) | rng (es : Es) | enum (e : E) | rev (e : E) | revr (es : Es)
end

/-- may the slot i be stored -/
def okS (T : Fx) (i : Nat) : Bool := !(T.lock0 && i == 0)
def Cell.frz : Cell → Option D
  | .val d => some d
  | .lst xs => some (.list xs)
  | _ => none
def keyD : Key → D
  | .inl i => .int i
  | .inr x => .str x
def keyOf : D → Option Key
  | .int i => some (.inl i)
  | .str x => some (.inr x)
  | _ => none
/-- what an operand shows -/
def res (env : Env) : Val → Option D
  | .d d => some d
  | .sl i => match env[i]? with
    | some (some (.lst xs)) => some (.list xs)
    | some (some (.dic kvs)) => some (.dict (kvs.map fun p => (keyD p.1, p.2)))
    | some (some (.val d)) => some d
    | _ => none
  | .fr _ => none
/-- a new object becomes a value -/
def Res.o : Option Res → Option Res
  | some (.ok (.fr c) env) => match c.frz with
    | some d => some (.ok (.d d) env)
    | none => none
  | r => r
def bndR (r : Option Res) (k : Val → Env → Option Res) : Option Res := match r with
  | some (.ok v env) => k v env
  | some (.exc c env) => some (.exc c env)
  | none => none
def scalD : D → Bool
  | .none | .bool _ | .int _ | .str _ => true
  | _ => false
def ofO {α : Type} (o : Option α) (f : α → Option Res) : Option Res := match o with
  | some a => f a
  | none => none

/-! ### operations on data -/
def mulOk (i j : Int) : Bool := decide ((-(2 ^ 64) < i ∧ i < 2 ^ 64) ∨ (-(2 ^ 64) < j ∧ j < 2 ^ 64))
def powOk (i j : Int) : Bool := decide (0 ≤ j ∧ j ≤ 1000000 ∧ i.natAbs < 2 ^ 64)
def dVal (d : D) : Option Val := some (.d d)
def binI (op : Operator) (i j : Int) : Option Val := match op with
  | .Add => dVal (.int (i + j))
  | .Sub => dVal (.int (i - j))
  | .Mult => if mulOk i j then dVal (.int (i * j)) else none
  | .FloorDiv => if decide (j ≠ 0 ∧ j.natAbs < 1073741824) then dVal (.int (i.fdiv j)) else none
  | .Mod => if decide (j ≠ 0) then dVal (.int (i.fmod j)) else none
  | .Pow => if powOk i j then dVal (.int (i ^ j.toNat)) else none
  | .LShift => if powOk i j then dVal (.int (i * 2 ^ j.toNat)) else none
  | .RShift => if decide (0 ≤ j) then dVal (.int (i / 2 ^ j.toNat)) else none
  | .BitAnd => dVal (.int (Builtin.bitAnd i j))
  | .BitOr => dVal (.int (Builtin.bitOr i j))
  | .BitXor => dVal (.int (Builtin.bitXor i j))
  | _ => none
def line : Nat := 16777216
def binD (op : Operator) (x y : D) : Option Val := match x, y with
  | .int i, .int j => binI op i j
  | .str a, .str b => match op with
    | .Add => if a.length + b.length ≤ line then dVal (.str (a ++ b)) else none
    | _ => none
  | .list a, .list b => match op with
    | .Add => if a.length + b.length ≤ line then some (.fr (.lst (a ++ b))) else none
    | _ => none
  | .list a, .int k => match op with
    | .Mult => if decide (-(2 ^ 63) ≤ k ∧ k < 2 ^ 63 ∧ a.length * k.toNat ≤ line) then some (.fr (.lst (List.replicate k.toNat a).flatten)) else none
    | _ => none
  | _, _ => none
def unD (op : UnaryOp) (x : D) : Option Val := match op, x with
  | .USub, .int i => dVal (.int (-i))
  | .Invert, .int i => dVal (.int (Builtin.bitNot i))
  | _, _ => none
/-- data without dicts, few levels deep -/
def shp (d : D) : Bool := SeqAt.shaped d
def isND : D → Bool
  | .none => true
  | _ => false
def flatD : D → Bool
  | .none | .bool _ | .int _ | .str _ => true
  | _ => false
/-- a list of the world's own (the script), shown -/
def flOf : List (D × D) → Option (List D)
  | [(.none, .list ds)] => some ds
  | _ => none
def inD (x : D) (ds : List D) : Bool := ds.any fun y => PyData.eqv y x
def cmpD (op : CmpOp) (x y : D) : Option Bool := match op with
  | .Eq => if shp x && shp y then some (PyData.eqv x y) else none
  | .NotEq => if shp x && shp y then some (!PyData.eqv x y) else none
  | .Lt => match x, y with
    | .int i, .int j => some (decide (i < j))
    | _, _ => none
  | .LtE => match x, y with
    | .int i, .int j => some (decide (i ≤ j))
    | _, _ => none
  | .Gt => match x, y with
    | .int i, .int j => some (decide (j < i))
    | _, _ => none
  | .GtE => match x, y with
    | .int i, .int j => some (decide (j ≤ i))
    | _, _ => none
  | .Is => match y with
    | .none => some (isND x)
    | _ => none
  | .IsNot => match y with
    | .none => some (!isND x)
    | _ => none
  | .In => match y with
    | .list ds => if flatD x && ds.all flatD then some (inD x ds) else none
    | .tuple ds => if flatD x && ds.all flatD then some (inD x ds) else none
    | .dict kvs => match flOf kvs, keyOf x with
      | none, some k => some (kvs.any fun p => decide (keyOf p.1 = some k))
      | _, _ => none
    | _ => none
  | .NotIn => match y with
    | .list ds => if flatD x && ds.all flatD then some (!inD x ds) else none
    | .tuple ds => if flatD x && ds.all flatD then some (!inD x ds) else none
    | .dict kvs => match flOf kvs, keyOf x with
      | none, some k => some (!(kvs.any fun p => decide (keyOf p.1 = some k)))
      | _, _ => none
    | _ => none
def ixD (x y : D) : Option D := match x, y with
  | .list ds, .int i => atI ds i
  | .tuple ds, .int i => atI ds i
  | .str s, .int i => if s.length ≤ line then (atI s.cps.toList i).map fun c => .str ⟨#[c]⟩ else none
  | .dict kvs, k => match flOf kvs with
    | some ds => (match k with
      | .int i => atI ds i
      | _ => none)
    | none => (match keyOf k with
      | some k => (kvs.find? fun p => decide (keyOf p.1 = some k)).map (·.2)
      | none => none)
  | _, _ => none
def cutD {α : Type} (xs : List α) (lo hi : Option Int) : List α := (xs.drop (HT.sIx xs.length 0 lo)).take (HT.sIx xs.length xs.length hi - HT.sIx xs.length 0 lo)
def slD (x : D) (lo hi : Option Int) : Option Val := match x with
  | .list ds => some (.fr (.lst (cutD ds lo hi)))
  | .str s => if s.length ≤ line then dVal (.str ⟨(cutD s.cps.toList lo hi).toArray⟩) else none
  | _ => none
def revD (x : D) : Option Val := match x with
  | .list ds => some (.fr (.lst ds.reverse))
  | .str s => if s.length ≤ line then dVal (.str ⟨((Builtin.Str.strSliceIndices none none (-1) s.length).filterMap (s.cps[·]?)).toArray⟩) else none
  | _ => none
def truD : D → Option Bool
  | .none => some false
  | .bool b => some b
  | .int i => some (i != 0)
  | .str s => if s.length ≤ line then some (s.length != 0) else none
  | .list xs => some (!xs.isEmpty)
  | .tuple xs => some (!xs.isEmpty)
  | _ => none
def intsD : List D → Option (List Int)
  | [] => some []
  | .int i :: ds => (intsD ds).map (i :: ·)
  | _ :: _ => none
/-- what format(i, "b") gives -/
def binText (i : Int) : Str := PyProof.Rows.intField' { align := 62, type := some 98 } (decide (i < 0)) [] ((Nat.toDigits 2 i.natAbs).map fun c => (if (98 : Nat) == 88 then c.toUpper else c).toNat) [] 4
def fbD (x : D) : Option Val := match x with
  | .int i => if (binText i).length ≤ line then dVal (.str (binText i)) else none
  | _ => none
/-- the built-in functions: a name, the arguments shown -/
def biLen (ds : List D) : Option Val := match ds with
  | [.list xs] => dVal (.int xs.length)
  | [.tuple xs] => dVal (.int xs.length)
  | [.str s] => if s.length ≤ line then dVal (.int s.length) else none
  | [.dict kvs] => match flOf kvs with
    | some xs => dVal (.int xs.length)
    | none => dVal (.int kvs.length)
  | _ => none
def biAbs (ds : List D) : Option Val := match ds with
  | [.int i] => dVal (.int (if i < 0 then -i else i))
  | _ => none
def biMax (ds : List D) : Option Val := match ds with
  | [.int i, .int j] => dVal (.int (if j > i then j else i))
  | [.list xs] => match intsD xs with
      | some (n :: ns) => dVal (.int (ns.foldl max n))
      | _ => none
  | _ => none
def biMin (ds : List D) : Option Val := match ds with
  | [.int i, .int j] => dVal (.int (if j < i then j else i))
  | [.list xs] => match intsD xs with
      | some (n :: ns) => dVal (.int (ns.foldl min n))
      | _ => none
  | _ => none
def biInt (ds : List D) : Option Val := match ds with
  | [.int i] => dVal (.int i)
  | [.bool b] => dVal (.int (if b then 1 else 0))
  | _ => none
def biList (ds : List D) : Option Val := match ds with
  | [.list xs] => some (.fr (.lst xs))
  | [.tuple xs] => some (.fr (.lst xs))
  | _ => none
def biTuple (ds : List D) : Option Val := match ds with
  | [.list xs] => some (.d (.tuple xs))
  | [.tuple xs] => some (.d (.tuple xs))
  | _ => none
def sortI (ns : List Int) : List Int := ns.mergeSort (fun a b => decide (a ≤ b))
def biSorted (ds : List D) : Option Val := match ds with
  | [.list xs] => (intsD xs).map fun ns => .fr (.lst ((sortI ns).map PyData.int))
  | _ => none
def biSum (ds : List D) : Option Val := match ds with
  | [.list xs] => (intsD xs).map fun ns => .d (.int ns.sum)
  | _ => none
def biD (f : Bi) (ds : List D) : Option Val := match f with
  | .len => biLen ds
  | .abs => biAbs ds
  | .max => biMax ds
  | .min => biMin ds
  | .int => biInt ds
  | .list => biList ds
  | .tuple => biTuple ds
  | .sorted => biSorted ds
  | .sum => biSum ds
/-- two operands, shown behind both -/
def b2T (f : B2) (x : D) : Bool := match f, x with
  | .index, .list _ => true
  | _, _ => false
def idxD (d : D) (xs : List D) : Option Nat := xs.findIdx? fun y => PyData.eqv y d
def b2D (f : B2) (x y : D) : Option Val := match f with
  | .index => (match x with
    | .list xs => if flatD y && xs.all flatD then (idxD y xs).map fun j => .d (.int (j : Nat)) else none
    | _ => none)
def isDct : D → Bool
  | .dict kvs => (flOf kvs).isNone
  | _ => false
def isDic : Option Cell → Bool
  | some (.dic _) => true
  | _ => false
def dgD (x k d : D) : Option D := match x with
  | .dict kvs => (match flOf kvs, keyOf k with
    | none, some key => some (((kvs.find? fun p => decide (keyOf p.1 = some key)).map (·.2)).getD d)
    | _, _ => none)
  | _ => none
def putD (kvs : List (Key × D)) (k : Key) (v : D) : List (Key × D) :=
  if kvs.any fun p => decide (p.1 = k) then kvs.map fun p => if p.1 = k then (p.1, v) else p else kvs ++ [(k, v)]
/-- x.setdefault(k, d) for the slot's own dict: what it gives, the dict behind it -/
def dsD (kvs : List (Key × D)) (k d : D) : Option (D × List (Key × D)) := match keyOf k with
  | some key => if kvs.length < line then (match kvs.find? fun p => decide (p.1 = key) with
    | some p => some (p.2, kvs)
    | none => some (d, putD kvs key d)) else none
  | none => none
def enumD (ds : List D) : List D := ds.mapIdx fun k d => .tuple [.int (k : Nat), d]
/-- .. and the methods of built-in values -/
def bmT (m : Bm) (x : D) : Bool := match m, x with
  | .find, .str _ => true
  | .count, .str _ => true
  | .bits, .int _ => true
  | _, _ => false
def bmD (m : Bm) (x : D) (ds : List D) : Option Val := match m with
  | .find => match x, ds with
    | .str a, [.str b] => dVal (.int (Txt.find a b))
    | _, _ => none
  | .count => match x, ds with
    | .str a, [.str b] => dVal (.int (Txt.count a b))
    | _, _ => none
  | .bits => match x, ds with
    | .int i, [] => dVal (.int (Builtin.Int.intBits i : Nat))
    | _, _ => none
/-- a method that changes the slot's own object: what it gives, the object behind it -/
def mmAppend (xs : List D) (ds : List D) : Option (D × List D) := match ds with
  | [d] => if xs.length < line then some (.none, xs ++ [d]) else none
  | _ => none
def mmPop (xs : List D) (ds : List D) : Option (D × List D) := match ds with
  | [.int i] => if decide (-(2 ^ 63) ≤ i ∧ i < 2 ^ 63) then match ixN xs.length i with
      | some k => match xs[k]? with
        | some d => some (d, xs.eraseIdx k)
        | none => none
      | none => none else none
  | [] => match xs[xs.length - 1]? with
      | some d => some (d, xs.dropLast)
      | none => none
  | _ => none
def mmD (m : Mm) (xs : List D) (ds : List D) : Option (D × List D) := match m with
  | .append => mmAppend xs ds
  | .pop => mmPop xs ds
def isOwn : Option Cell → Bool
  | some (.lst _) => true
  | some (.dic _) => true
  | _ => false
def isLst : Option Cell → Bool
  | some (.lst _) => true
  | _ => false
def resL (env : Env) : List Val → Option (List D)
  | [] => some []
  | v :: vs => match res env v with
    | some d => (resL env vs).map (d :: ·)
    | none => none
def hasSl : List Val → Bool
  | [] => false
  | .sl _ :: _ => true
  | _ :: vs => hasSl vs
def scalC : Cell → Bool
  | .val d => scalD d
  | _ => false
/-- the slots shown become values -/
def frzS (env : Env) : List Val → Option Env
  | [] => some env
  | .sl i :: vs => match env[i]? with
    | some (some (.lst xs)) => frzS (env.set i (some (.val (.list xs)))) vs
    | some (some (.val d)) => frzS env vs
    | _ => none
  | _ :: vs => frzS env vs
def isVal : Cell → Bool
  | .val _ => true
  | _ => false
def asVal : Cell → Val
  | .val d => .d d
  | c => .fr c
def callF (fn : Fn) (vs : List Val) (env : Env) : Option Res := match fn with
  | .pure F => match resL env vs, frzS env vs with
    | some ds, some env' => match F ds with
      | some (.ok c) => some (.ok (asVal c) (if scalC c then env else env'))
      | some (.exc c) => some (.exc c env)
      | none => none
    | _, _ => none
  | .mt F => match vs with
    | .sl i :: vs => match env[i]?, hasSl vs, resL env vs with
      | some (some c), false, some ds => if isVal c then none else match F c ds with
        | some (.ok r c') => some (.ok (asVal r) (env.set i (some c')))
        | some (.exc e c') => some (.exc e (env.set i (some c')))
        | none => none
      | _, _, _ => none
    | _ => none
  | .scr F => match vs with
    | [.sl i] => match env[i]? with
      | some (some (.scr ns)) => match F ns with
        | some c => some (.ok (asVal c) env)
        | none => none
      | _ => none
    | _ => none
def isiD (x : D) (ty : Ty) : Option Bool := match x, ty with
  | .dict _, _ => none
  | .int _, .int => some true
  | .bool _, .int => some true
  | .bool _, .bool => some true
  | .str _, .str => some true
  | .list _, .list => some true
  | .tuple _, .tuple => some true
  | _, _ => some false
/-- the turns of a comprehension over slot i: what a turn gives (the test, the element), the items made so far -/
def compL (t : Env → Option RsT) (f : Env → Option Res) (i : Nat) : List D → Env → List D → Option Res
  | [], env, acc => some (.ok (.fr (.lst acc)) env)
  | x :: xs, env, acc => match t (env.set i (some (.val x))) with
    | some (.ok true e1) => match f e1 with
      | some (.ok (.d d) e2) => if acc.length < line then compL t f i xs (e2.set i none) (acc ++ [d]) else none
      | _ => none
    | some (.ok false e1) => compL t f i xs (e1.set i none) acc
    | _ => none
/-- a slot that a comprehension used for its own name -/
def back (old : Option Cell) : Option Cell := match old with
  | some (.val d) => some (.val d)
  | _ => none
def RsT.of (r : Option Res) : Option RsT := match r with
  | some (.ok v env) => match res env v with
    | some d => (truD d).map fun b => .ok b env
    | none => none
  | some (.exc c env) => some (.exc c env)
  | none => none

mutual
def ev (T : Fx) : E → Env → Option Res
  | .var i, env => match env[i]? with
    | some (some (.val d)) => some (.ok (.d d) env)
    | some (some _) => some (.ok (.sl i) env)
    | _ => none
  | .c d, env => if scalD d then some (.ok (.d d) env) else none
  | .glob x, env => match T.cons x with
    | some d => some (.ok (.d d) env)
    | none => none
  | .bin op a b, env => bndR (Res.o (ev T a env)) fun x e1 => bndR (Res.o (ev T b e1)) fun y e2 =>
      ofO (res e2 x) fun dx => ofO (res e2 y) fun dy => ofO (binD op dx dy) fun v => some (.ok v e2)
  | .un op a, env => bndR (Res.o (ev T a env)) fun x e1 => ofO (res e1 x) fun dx => ofO (unD op dx) fun v => some (.ok v e1)
  | .cmp op a b, env => bndR (Res.o (ev T a env)) fun x e1 => bndR (Res.o (ev T b e1)) fun y e2 =>
      ofO (res e2 x) fun dx => ofO (res e2 y) fun dy => ofO (cmpD op dx dy) fun v => some (.ok (.d (.bool v)) e2)
  | .chn o1 o2 a b c, env => bndR (Res.o (ev T a env)) fun x e1 => bndR (Res.o (ev T b e1)) fun y e2 =>
      ofO (res e2 x) fun dx => ofO (res e2 y) fun dy => ofO (cmpD o1 dx dy) fun v =>
      if v then bndR (Res.o (ev T c e2)) fun z e3 => ofO (res e3 y) fun dy => ofO (res e3 z) fun dz => ofO (cmpD o2 dy dz) fun v => some (.ok (.d (.bool v)) e3)
      else some (.ok (.d (.bool false)) e2)
  | .and a b, env => bndR (Res.o (ev T a env)) fun x e1 => match x with
      | .d (.bool true) => Res.o (ev T b e1)
      | .d (.bool false) => some (.ok (.d (.bool false)) e1)
      | _ => none
  | .or a b, env => bndR (Res.o (ev T a env)) fun x e1 => match x with
      | .d (.bool true) => some (.ok (.d (.bool true)) e1)
      | .d (.bool false) => Res.o (ev T b e1)
      | _ => none
  | .not a, env => bndR (Res.o (ev T a env)) fun x e1 => match x with
      | .d (.bool b) => some (.ok (.d (.bool (!b))) e1)
      | _ => none
  | .ite c a b, env => match evt T c env with
      | some (.ok true e1) => ev T a e1
      | some (.ok false e1) => ev T b e1
      | some (.exc c e1) => some (.exc c e1)
      | none => none
  | .tup es, env => match evs T es env with
      | some (.ok vs e1) => match frzS e1 vs with
        | some e2 => match resL e1 vs with
          | some ds => if ds.length ≤ 1000 then some (.ok (.d (.tuple ds)) e2) else none
          | none => none
        | none => none
      | some (.exc c e1) => some (.exc c e1)
      | none => none
  | .lst es, env => match evs T es env with
      | some (.ok vs e1) => match frzS e1 vs with
        | some e2 => match resL e1 vs with
          | some ds => if ds.length ≤ 1000 then some (.ok (.fr (.lst ds)) e2) else none
          | none => none
        | none => none
      | some (.exc c e1) => some (.exc c e1)
      | none => none
  | .ix a b, env => bndR (Res.o (ev T a env)) fun x e1 => bndR (Res.o (ev T b e1)) fun y e2 =>
      ofO (res e2 x) fun dx => ofO (res e2 y) fun dy => ofO (ixD dx dy) fun v => some (.ok (.d v) e2)
  | .sl a lo hi, env => bndR (Res.o (ev T a env)) fun x e1 => match evx T lo e1 with
      | some (l, e2) => match evx T hi e2 with
        | some (h, e3) => ofO (res e3 x) fun dx => ofO (slD dx l h) fun v => some (.ok v e3)
        | _ => none
      | _ => none
  | .rev a, env => bndR (Res.o (ev T a env)) fun x e1 => ofO (res e1 x) fun dx => ofO (revD dx) fun v => some (.ok v e1)
  | .call f es, env => match T.fns f with
      | none => none
      | some fn => match evs T es env with
        | some (.ok vs e1) => callF fn vs e1
        | some (.exc c e1) => some (.exc c e1)
        | none => none
  | .bi f es, env => match evs T es env with
      | some (.ok vs e1) => ofO (resL e1 vs) fun ds => ofO (biD f ds) fun v => some (.ok v e1)
      | some (.exc c e1) => some (.exc c e1)
      | none => none
  | .bm m a es, env => bndR (Res.o (ev T a env)) fun x e0 => ofO (res e0 x) fun dx => if bmT m dx then (match evs T es e0 with
      | some (.ok vs e1) => ofO (resL e1 vs) fun ds => ofO (bmD m dx ds) fun v => some (.ok v e1)
      | some (.exc c e1) => some (.exc c e1)
      | none => none) else none
  | .mm m i es, env => if isLst (env[i]?.getD none) then (match evs T es env with
      | some (.ok vs e1) => match frzS e1 vs with
        | some e2 => match resL e1 vs, e2[i]? with
          | some ds, some (some (.lst xs)) => match mmD m xs ds with
            | some (d, c') => some (.ok (.d d) (e2.set i (some (.lst c'))))
            | none => none
          | _, _ => none
        | none => none
      | some (.exc c e1) => some (.exc c e1)
      | none => none) else none
  | .comp elt i it cnd, env => if okS T i then (match evi T it env with
      | some (.ok ds e1) => match compL (evt T cnd) (fun e => Res.o (ev T elt e)) i ds (e1.set i none) [] with
        | some (.ok v e2) => some (.ok v (e2.set i (back (e1[i]?.getD none))))
        | _ => none
      | some (.exc c e1) => some (.exc c e1)
      | none => none) else none
  | .dic0, env => some (.ok (.fr (.dic [])) env)
  | .isx i c, env => match env[i]? with
    | some (some (.exc x)) => (T.sub x c).map fun b => .ok (.d (.bool b)) env
    | _ => none
  | .isi a ty, env => bndR (Res.o (ev T a env)) fun x e1 => ofO (res e1 x) fun dx => ofO (isiD dx ty) fun b => some (.ok (.d (.bool b)) e1)
  | .fb a, env => bndR (Res.o (ev T a env)) fun x e1 => ofO (res e1 x) fun dx => ofO (fbD dx) fun v => some (.ok v e1)
  | .b2 f a b, env => bndR (Res.o (ev T a env)) fun x e1 => ofO (res e1 x) fun d0 => if b2T f d0 then bndR (Res.o (ev T b e1)) fun y e2 =>
      ofO (res e2 x) fun dx => ofO (res e2 y) fun dy => ofO (b2D f dx dy) fun v => some (.ok v e2) else none
  | .dget a k d, env => bndR (Res.o (ev T a env)) fun x e1 => ofO (res e1 x) fun d0 => if isDct d0 then bndR (Res.o (ev T k e1)) fun y e2 => bndR (Res.o (ev T d e2)) fun z e3 =>
      ofO (frzS e3 [z]) fun e4 => ofO (res e3 x) fun dx => ofO (res e3 y) fun dy => ofO (res e3 z) fun dz => ofO (dgD dx dy dz) fun v => some (.ok (.d v) e4) else none
  | .dset i k d, env => if isDic (env[i]?.getD none) then bndR (Res.o (ev T k env)) fun y e1 => bndR (Res.o (ev T d e1)) fun z e2 =>
      ofO (frzS e2 [z]) fun e3 => ofO (res e2 y) fun dy => ofO (res e2 z) fun dz => match e3[i]? with
        | some (some (.dic kvs)) => ofO (dsD kvs dy dz) fun p => some (.ok (.d p.1) (e3.set i (some (.dic p.2))))
        | _ => none
      else none
  | .lsI it, env => match evi T it env with
      | some (.ok ds e1) => if ds.length ≤ 1000000 then some (.ok (.fr (.lst ds)) e1) else none
      | some (.exc c e1) => some (.exc c e1)
      | none => none
def evs (T : Fx) : Es → Env → Option RsL
  | .nil, env => some (.ok [] env)
  | .cons e es, env => match Res.o (ev T e env) with
      | some (.ok v e1) => match evs T es e1 with
        | some (.ok vs e2) => some (.ok (v :: vs) e2)
        | some (.exc c e2) => some (.exc c e2)
        | none => none
      | some (.exc c e1) => some (.exc c e1)
      | none => none
def evx (T : Fx) : Ox → Env → Option (Option Int × Env)
  | .non, env => some (none, env)
  | .some e, env => match Res.o (ev T e env) with
      | some (.ok (.d (.int i)) e1) => some (some i, e1)
      | _ => none
def evt (T : Fx) : Te → Env → Option RsT
  | .and a b, env => match evt T a env with
      | some (.ok true e1) => evt T b e1
      | r => r
  | .or a b, env => match evt T a env with
      | some (.ok false e1) => evt T b e1
      | r => r
  | .not a, env => match evt T a env with
      | some (.ok b e1) => some (.ok (!b) e1)
      | r => r
  | .val e, env => RsT.of (Res.o (ev T e env))
def evi (T : Fx) : It → Env → Option RsI
  | .seq e, env => match Res.o (ev T e env) with
      | some (.ok v e1) => match frzS e1 [v], res e1 v with
        | some e2, some (.list ds) => some (.ok ds e2)
        | some e2, some (.tuple ds) => some (.ok ds e2)
        | some e2, some (.str s) => some (.ok (s.cps.toList.map fun c => .str ⟨#[c]⟩) e2)
        | _, _ => none
      | some (.exc c e1) => some (.exc c e1)
      | none => none
  | .rng es, env => match evs T es env with
      | some (.ok [.d (.int n)] e1) => if decide (-1000000 ≤ n ∧ n ≤ 1000000) then some (.ok ((List.range n.toNat).map fun (k : Nat) => PyData.int (0 + (k : Int))) e1) else none
      | some (.ok [.d (.int a), .d (.int n)] e1) => if decide (-1000000 ≤ a ∧ a ≤ 1000000 ∧ -1000000 ≤ n ∧ n ≤ 1000000) then some (.ok ((List.range (n - a).toNat).map fun (k : Nat) => PyData.int (a + (k : Int))) e1) else none
      | _ => none
  | .enum e, env => match Res.o (ev T e env) with
      | some (.ok v e1) => match frzS e1 [v], res e1 v with
        | some e2, some (.list ds) => some (.ok (enumD ds) e2)
        | _, _ => none
      | some (.exc c e1) => some (.exc c e1)
      | none => none
  | .rev e, env => match Res.o (ev T e env) with
      | some (.ok v e1) => match frzS e1 [v], res e1 v with
        | some e2, some (.list ds) => some (.ok ds.reverse e2)
        | some e2, some (.tuple ds) => some (.ok ds.reverse e2)
        | _, _ => none
      | some (.exc c e1) => some (.exc c e1)
      | none => none
  | .revr es, env => match evs T es env with
      | some (.ok [.d (.int n)] e1) => if decide (-1000000 ≤ n ∧ n ≤ 1000000) then some (.ok ((List.range n.toNat).map fun (k : Nat) => PyData.int (0 + ((n.toNat : Nat) : Int) - 1 + (k : Int) * (-1))) e1) else none
      | _ => none
end

/-! ### statements -/
inductive Tg where
  | one (i : Nat) | many (is : List Nat)
inductive S where
  | pass | seq (a b : S) | expr (e : E) | set (i : Nat) (e : E) | unp (is : List Nat) (e : E) | par (i j : Nat) (a b : E)
  | aug (i : Nat) (op : Operator) (e : E) | setIx (i : Nat) (k v : E) | augIx (i : Nat) (k : E) (op : Operator) (e : E)
  | ite (c : Te) (a b : S) | whl (c : Te) (b : S) | for_ (t : Tg) (it : It) (b : S)
  | ret (e : E) | retN | brk | cnt | raise (c : Str) | tryx (b : S) (c : Str) (h : S) | tryas (b : S) (c : Str) (i : Nat) (h : S)
inductive Out where
  | nx (env : Env) | bk (env : Env) | ct (env : Env) | rt (v : Val) (env : Env) | exc (c : Str) (env : Env)
def bindL (T : Fx) : List Nat → List D → Env → Option Env
  | [], [], env => some env
  | i :: is, d :: ds, env => if okS T i then bindL T is ds (env.set i (some (.val d))) else none
  | _, _, _ => none
def bindT (T : Fx) (t : Tg) (d : D) (env : Env) : Option Env := match t, d with
  | .one i, d => if okS T i then some (env.set i (some (.val d))) else none
  | .many is, .tuple ds => bindL T is ds env
  | _, _ => none
/-- x[k] = v for the slot's own object -/
def setC (c : Cell) (k v : D) : Option Cell := match c, k with
  | .lst xs, .int i => match ixN xs.length i with
    | some j => some (.lst (xs.set j v))
    | none => none
  | .dic kvs, k => match keyOf k with
    | some k => if kvs.length < line then some (.dic (putD kvs k v)) else none
    | none => none
  | _, _ => none
def forL (T : Fx) (t : Tg) (f : Env → Option Out) : List D → Env → Option Out
  | [], env => some (.nx env)
  | d :: ds, env => match bindT T t d env with
    | some e1 => match f e1 with
      | some (.nx e2) => forL T t f ds e2
      | some (.ct e2) => forL T t f ds e2
      | some (.bk e2) => some (.nx e2)
      | r => r
    | none => none
def whlL (c : Env → Option RsT) (f : Env → Option Out) : Nat → Env → Option Out
  | 0, _ => none
  | n + 1, env => match c env with
    | some (.ok true e1) => match f e1 with
      | some (.nx e2) => whlL c f n e2
      | some (.ct e2) => whlL c f n e2
      | some (.bk e2) => some (.nx e2)
      | r => r
    | some (.ok false e1) => some (.nx e1)
    | some (.exc c e1) => some (.exc c e1)
    | none => none
/-- an except suite lets nothing out -/
def noX : Option Out → Option Out
  | some (.exc _ _) => none
  | r => r
def noEx (env : Env) : Bool := env.all fun c => match c with
  | some (.exc _) => false
  | _ => true
def offX (i : Nat) : Option Out → Option Out
  | some (.nx e) => if noEx (e.set i none) then some (.nx (e.set i none)) else none
  | some (.bk e) => if noEx (e.set i none) then some (.bk (e.set i none)) else none
  | some (.ct e) => if noEx (e.set i none) then some (.ct (e.set i none)) else none
  | some (.rt (.d d) e) => if noEx (e.set i none) then some (.rt (.d d) (e.set i none)) else none
  | some (.rt (.fr (.lst xs)) e) => if noEx (e.set i none) then some (.rt (.fr (.lst xs)) (e.set i none)) else none
  | _ => none
def ex (T : Fx) (n : Nat) : S → Env → Option Out
  | .pass, env => some (.nx env)
  | .seq a b, env => match ex T n a env with
    | some (.nx e1) => ex T n b e1
    | r => r
  | .expr e, env => match ev T e env with
    | some (.ok _ e1) => some (.nx e1)
    | some (.exc c e1) => some (.exc c e1)
    | none => none
  | .set i e, env => match ev T e env with
    | some (.ok (.d d) e1) => if okS T i then some (.nx (e1.set i (some (.val d)))) else none
    | some (.ok (.fr c) e1) => if okS T i then some (.nx (e1.set i (some c))) else none
    | some (.ok (.sl j) e1) => match frzS e1 [.sl j], res e1 (.sl j) with
      | some e2, some d => if okS T i then some (.nx (e2.set i (some (.val d)))) else none
      | _, _ => none
    | some (.exc c e1) => some (.exc c e1)
    | none => none
  | .unp is e, env => match Res.o (ev T e env) with
    | some (.ok v e1) => match frzS e1 [v], res e1 v with
      | some e2, some (.tuple ds) => if ds.length = is.length then (bindL T is ds e2).map .nx else none
      | _, _ => none
    | some (.exc c e1) => some (.exc c e1)
    | none => none
  | .par i j a b, env => match evs T (.cons a (.cons b .nil)) env with
    | some (.ok vs e1) => match frzS e1 vs, resL e1 vs with
      | some e2, some [x, y] => if okS T i && okS T j then some (.nx ((e2.set i (some (.val x))).set j (some (.val y)))) else none
      | _, _ => none
    | some (.exc c e1) => some (.exc c e1)
    | none => none
  | .aug i op e, env => match env[i]? with
    | some (some (.val x)) => match Res.o (ev T e env) with
      | some (.ok v e1) => match res e1 v with
        | some y => match binD op x y with
          | some (.d z) => if scalD z && okS T i then some (.nx (e1.set i (some (.val z)))) else none
          | _ => none
        | none => none
      | some (.exc c e1) => some (.exc c e1)
      | none => none
    | _ => none
  | .setIx i k v, env => match Res.o (ev T v env) with
    | some (.ok v e1) => match frzS e1 [v], res e1 v with
      | some e2, some dv => if isOwn (e2[i]?.getD none) then (match Res.o (ev T k e2) with
        | some (.ok (.d dk) e3) => match e3[i]? with
          | some (some c) => match setC c dk dv with
            | some c' => some (.nx (e3.set i (some c')))
            | none => none
          | _ => none
        | some (.exc c e3) => some (.exc c e3)
        | _ => none) else none
      | _, _ => none
    | some (.exc c e1) => some (.exc c e1)
    | none => none
  | .augIx i k op e, env => match env[i]?, Res.o (ev T k env) with
    | some (some (.lst _)), some (.ok (.d (.int ki)) e1) => match e1[i]? with
      | some (some (.lst xs)) => match atI xs ki with
        | some x => match Res.o (ev T e e1) with
          | some (.ok v e2) => match res e2 v with
            | some y => match binD op x y, e2[i]? with
              | some (.d z), some (some (.lst xs2)) => if scalD z then match ixN xs2.length ki with
                | some j => some (.nx (e2.set i (some (.lst (xs2.set j z)))))
                | none => none else none
              | _, _ => none
            | none => none
          | _ => none
        | none => none
      | _ => none
    | _, _ => none
  | .ite c a b, env => match evt T c env with
    | some (.ok true e1) => ex T n a e1
    | some (.ok false e1) => ex T n b e1
    | some (.exc c e1) => some (.exc c e1)
    | none => none
  | .whl c b, env => whlL (evt T c) (ex T n b) n env
  | .for_ t it b, env => match evi T it env with
    | some (.ok ds e1) => forL T t (ex T n b) ds e1
    | some (.exc c e1) => some (.exc c e1)
    | none => none
  | .ret e, env => match ev T e env with
    | some (.ok v e1) => some (.rt v e1)
    | some (.exc c e1) => some (.exc c e1)
    | none => none
  | .retN, env => some (.rt (.d .none) env)
  | .brk, env => some (.bk env)
  | .cnt, env => some (.ct env)
  | .raise c, env => some (.exc c env)
  | .tryx b c h, env => match ex T n b env with
    | some (.exc x e1) => match T.sub x c with
      | some true => noX (ex T n h e1)
      | some false => some (.exc x e1)
      | none => none
    | r => r
  | .tryas b c i h, env => match ex T n b env with
    | some (.exc x e1) => match T.sub x c with
      | some true => if okS T i then offX i (ex T n h (e1.set i (some (.exc x)))) else none
      | some false => some (.exc x e1)
      | none => none
    | r => r
end Fin
/-! Fin 3: expressions of the text do what ev says. -/
namespace Fin
open PySem PySem.Spec PyProof.Rows L2

theorem _root_.L2.PE.wk {X : Cx} {e : Expr} {t t' : TE} (h : PE X e t) (hw : ∀ σ H Q, t' σ H Q → t σ H Q) : PE X e t' := ⟨fun pins s σ H Q I q => h.run pins s σ H Q I (hw σ H Q q)⟩
theorem _root_.L2.PT.wk {X : Cx} {e : Expr} {t t' : TT} (h : PT X e t) (hw : ∀ σ H Q, t' σ H Q → t σ H Q) : PT X e t' := ⟨fun pins s σ H Q I q => h.run pins s σ H Q I (hw σ H Q q)⟩
theorem _root_.L2.PW.wk {X : Cx} {e : Expr} {t t' : TT} (h : PW X e t) (hw : ∀ σ H Q, t' σ H Q → t σ H Q) : PW X e t' := ⟨fun wh pins s σ H Q I q => h.run wh pins s σ H Q I (hw σ H Q q)⟩
theorem _root_.L2.PA.wk {X : Cx} {e : List Expr} {t t' : TA} (h : PA X e t) (hw : ∀ σ H Q, t' σ H Q → t σ H Q) : PA X e t' := ⟨fun po pins s σ H Q I q => h.run po pins s σ H Q I (hw σ H Q q)⟩
theorem _root_.L2.PS.wk {X : Cx} {e : Stmt} {t t' : TS} (h : PS X e t) (hw : ∀ D σ H, t' D σ H → t D σ H) : PS X e t' := ⟨fun pins s σ H D I q => h.run pins s σ H D I (hw D σ H q)⟩
theorem _root_.L2.PSs.wk {X : Cx} {e : List Stmt} {t t' : TS} (h : PSs X e t) (hw : ∀ D σ H, t' D σ H → t D σ H) : PSs X e t' := ⟨fun pins s σ H D I q => h.run pins s σ H D I (hw D σ H q)⟩
theorem _root_.L2.PI.wk {X : Cx} {tg e : Expr} {t t' : TI} (h : PI X tg e t) (hw : ∀ σ H Q, t' σ H Q → t σ H Q) : PI X tg e t' := ⟨fun pins s σ H Q I q => h.run pins s σ H Q I (hw σ H Q q)⟩
theorem _root_.L2.PO.wk {X : Cx} {e : Option Expr} {t t' : TO} (h : PO X e t) (hw : ∀ σ H Q, t' σ H Q → t σ H Q) : PO X e t' := ⟨fun pins s σ H Q I q => h.run pins s σ H Q I (hw σ H Q q)⟩
theorem _root_.L2.PE.or {X : Cx} {e : Expr} {t t' : TE} (h : PE X e t) (h' : PE X e t') : PE X e (fun σ H Q => t σ H Q ∨ t' σ H Q) := ⟨fun pins s σ H Q I q => q.elim (h.run pins s σ H Q I) (h'.run pins s σ H Q I)⟩
theorem _root_.L2.PT.or {X : Cx} {e : Expr} {t t' : TT} (h : PT X e t) (h' : PT X e t') : PT X e (fun σ H Q => t σ H Q ∨ t' σ H Q) := ⟨fun pins s σ H Q I q => q.elim (h.run pins s σ H Q I) (h'.run pins s σ H Q I)⟩
theorem _root_.L2.PS.or {X : Cx} {e : Stmt} {t t' : TS} (h : PS X e t) (h' : PS X e t') : PS X e (fun D σ H => t D σ H ∨ t' D σ H) := ⟨fun pins s σ H D I q => q.elim (h.run pins s σ H D I) (h'.run pins s σ H D I)⟩
theorem _root_.L2.PI.or {X : Cx} {tg e : Expr} {t t' : TI} (h : PI X tg e t) (h' : PI X tg e t') : PI X tg e (fun σ H Q => t σ H Q ∨ t' σ H Q) := ⟨fun pins s σ H Q I q => q.elim (h.run pins s σ H Q I) (h'.run pins s σ H Q I)⟩

/-! ### what a state and a value stand for -/
theorem okp {T : Tbl} {i : Nat} (h : okS T.F i = true) : T.ex.p0 ≠ none → i ≠ 0 := fun n z => by
  subst z
  have := T.lk n
  simp [okS, this] at h
def St0 (T : Tbl) (S : Hp) (O : Addr → Prop) (H : Hp) (σ : L2.St) (env : Env) : Prop := ∃ fp, EnvR T.K T.ex S O H σ env fp
def StV (T : Tbl) (S : Hp) (O : Addr → Prop) (H : Hp) (σ : L2.St) (env : Env) (x : V) (v : Val) : Prop := ∃ fp, EnvR T.K T.ex S O H σ env fp ∧ match v with
  | .d d => Rp T.K S x d
  | .sl i => σ[i]? = some (some x)
  | .fr c => ∃ fx, CellR T.K T.ex.r S H x c fx ∧ ∀ a ∈ fx, O a ∧ ∀ i, a ∉ fp i
/-- an operand -/
def OpV (K : PySem.W.Frag) (σ : L2.St) (S : Hp) (x : V) : Val → Prop
  | .d d => Rp K S x d
  | .sl i => σ[i]? = some (some x)
  | .fr _ => False
theorem OpV.mono {K : PySem.W.Frag} {σ : L2.St} {S S' : Hp} {x : V} {v : Val} (e : Sub S S') (h : OpV K σ S x v) : OpV K σ S' x v := by
  cases v with
  | d d => exact Rp.mono e h
  | sl i => exact h
  | fr c => exact h
theorem St0.sub {T : Tbl} {S : Hp} {O : Addr → Prop} {H : Hp} {σ : L2.St} {env : Env} (h : St0 T S O H σ env) : Sub S H := let ⟨_, e⟩ := h; e.sub
/-- what is wanted behind a value v -/
def Fin1 (T : Tbl) (S : Hp) (O : Addr → Prop) (H : Hp) (σ : L2.St) (env : Env) (v : Val) (Q : VK) : Prop :=
  ∀ S' O' H' x, Step S O H S' O' H' → StV T S' O' H' σ env x v → Q x H'
def Post (T : Tbl) (W : WX) (S : Hp) (O : Addr → Prop) (H : Hp) (σ : L2.St) (Q : VK) : Res → Prop
  | .ok v env => Fin1 T S O H σ env v Q
  | .exc c env => ∀ S' O' H', Step S O H S' O' H' → St0 T S' O' H' σ env → W (T.cls c) none σ H'
theorem Post.step {T : Tbl} {W : WX} {S S1 H H1 : Hp} {O O1 : Addr → Prop} {σ : L2.St} {Q : VK} {r : Res} (s : Step S O H S1 O1 H1) (p : Post T W S O H σ Q r) : Post T W S1 O1 H1 σ Q r := by
  cases r with
  | ok v env => exact fun S' O' H' x s' h => p S' O' H' x (s.trans s') h
  | exc c env => exact fun S' O' H' s' h => p S' O' H' (s.trans s') h
def tE (W : WX) (T : Tbl) (e : E) : TE := fun σ H Q => ∃ S O env r, St0 T S O H σ env ∧ ev T.F e env = some r ∧ Post T W S O H σ Q r
def tO (W : WX) (T : Tbl) (e : E) : TE := fun σ H Q => ∃ S O env r, St0 T S O H σ env ∧ Res.o (ev T.F e env) = some r ∧ Post T W S O H σ Q r

section
variable {T : Tbl} {W : WX} {S H : Hp} {O : Addr → Prop} {σ : L2.St} {env : Env} {Q : VK}
/-- an object of ours that no slot holds becomes one that nobody changes -/
theorem EnvR.freeze {K : PySem.W.Frag} {ex : Xc} {fp : Nat → List Addr} (h : EnvR K ex S O H σ env fp) {a : Addr} {u : HO} (hO : O a) (hH : H a = some u) (nf : ∀ i, a ∉ fp i) :
    Step S O H (upd S a u) (fun b => O b ∧ b ≠ a) H ∧ EnvR K ex (upd S a u) (fun b => O b ∧ b ≠ a) H σ env fp := by
  have hS := (h.out a hO).1
  refine ⟨⟨Sub.new hS, fun _ _ e _ => e, fun b _ n z => ?_, fun b z => .inl z.1, fun _ z => z⟩, ?_⟩
  · rw [upd_ne (fun q => n (by rw [q]; exact hO))]; exact z
  · refine h.other (Sub.new hS) (fun b o e => ?_) (fun _ _ _ _ e => e) (fun i b z => ⟨h.ow i b z, fun q => nf i (by rw [← q]; exact z)⟩) fun b z => ⟨?_, (h.out b z.1).2⟩
    · by_cases q : b = a
      · subst q
        rw [upd_same] at e
        cases e
        exact hH
      · rw [upd_ne q] at e
        exact h.sub b o e
    · rw [upd_ne z.2]; exact (h.out b z.1).1
theorem ro_fr {r : Option Res} {c : Cell} {e : Env} (h : Res.o r = some (.ok (.fr c) e)) : False := by
  unfold Res.o at h
  split at h
  · split at h <;> simp at h
  · rename_i hn
    cases r with
    | none => simp at h
    | some r =>
      cases r with
      | exc _ _ => simp at h
      | ok v e' =>
        cases v with
        | fr c' => exact hn c' e' rfl
        | d _ => simp at h
        | sl _ => simp at h
/-- an expression as an operand: a new object is a value -/
theorem tO_tE {e : E} (h : tO W T e σ H Q) : tE W T e σ H Q := by
  obtain ⟨S, O, env, r, st, hr, post⟩ := h
  cases q : ev T.F e env with
  | none => rw [q] at hr; simp [Res.o] at hr
  | some r0 =>
    rw [q] at hr
    cases r0 with
    | exc c env' =>
      simp [Res.o] at hr
      subst hr
      exact ⟨S, O, env, _, st, q, post⟩
    | ok v env' =>
      cases v with
      | d d =>
        simp [Res.o] at hr
        subst hr
        exact ⟨S, O, env, _, st, q, post⟩
      | sl i =>
        simp [Res.o] at hr
        subst hr
        exact ⟨S, O, env, _, st, q, post⟩
      | fr c =>
        refine ⟨S, O, env, _, st, q, fun S' O' H' x stp ⟨fp, hE, fx, hc, hd⟩ => ?_⟩
        cases c with
        | val d =>
          simp [Res.o, Cell.frz] at hr
          subst hr
          cases hc with
          | val rp => exact post S' O' H' x stp ⟨fp, hE, rp⟩
        | lst xs =>
          simp [Res.o, Cell.frz] at hr
          subst hr
          cases hc with
          | @lst a vs _ e1 r1 =>
            obtain ⟨s2, E2⟩ := hE.freeze (hd a (by simp)).1 e1 (hd a (by simp)).2
            exact post _ _ H' _ (stp.trans s2) ⟨fp, E2, .lst upd_same (r1.mono s2.ss)⟩
        | dic _ => simp [Res.o, Cell.frz] at hr
        | exc _ => simp [Res.o, Cell.frz] at hr
        | scr _ => simp [Res.o, Cell.frz] at hr
theorem pe_o {X : Cx} {e : Expr} {ea : E} (h : PE X e (tE W T ea)) : PE X e (tO W T ea) := h.wk fun _ _ _ q => tO_tE q
/-- behind an operand -/
theorem one {ea : E} {r : Res} {k : Val → Env → Option Res} (st : St0 T S O H σ env) (h : bndR (Res.o (ev T.F ea env)) k = some r) (post : Post T W S O H σ Q r) {R : V → Hp → Prop}
    (go : ∀ x e1 S1 O1 H1 vx, Step S O H S1 O1 H1 → St0 T S1 O1 H1 σ e1 → OpV T.K σ S1 vx x → k x e1 = some r → Post T W S1 O1 H1 σ Q r → R vx H1) : tO W T ea σ H R := by
  cases q : Res.o (ev T.F ea env) with
  | none => rw [q] at h; simp [bndR] at h
  | some r1 =>
    rw [q] at h
    refine ⟨S, O, env, r1, st, q, ?_⟩
    cases r1 with
    | exc c e1 =>
      simp [bndR] at h
      subst h
      exact post
    | ok v e1 =>
      intro S1 O1 H1 x s1 ⟨fp, hE, hv⟩
      refine go v e1 S1 O1 H1 x s1 ⟨fp, hE⟩ ?_ h (post.step s1)
      cases v with
      | d d => exact hv
      | sl i => exact hv
      | fr c => exact (ro_fr q).elim
theorem two {ea eb : E} {r : Res} {k : Val → Val → Env → Option Res} (st : St0 T S O H σ env) (h : (bndR (Res.o (ev T.F ea env)) fun x e1 => bndR (Res.o (ev T.F eb e1)) fun y e2 => k x y e2) = some r) (post : Post T W S O H σ Q r) {R : V → V → Hp → Prop}
    (go : ∀ x y e2 S2 O2 H2 vx vy, Step S O H S2 O2 H2 → St0 T S2 O2 H2 σ e2 → OpV T.K σ S2 vx x → OpV T.K σ S2 vy y → k x y e2 = some r → Post T W S2 O2 H2 σ Q r → R vx vy H2) :
    tO W T ea σ H fun vx H1 => tO W T eb σ H1 fun vy H2 => R vx vy H2 :=
  one st h post fun x e1 S1 O1 H1 vx s1 st1 ox h1 post1 => one st1 h1 post1 fun y e2 S2 O2 H2 vy s2 st2 oy h2 post2 => go x y e2 S2 O2 H2 vx vy (s1.trans s2) st2 (ox.mono s2.ss) oy h2 post2

/-- .. where the run is told -/
theorem one' {ea : E} {r : Res} {k : Val → Env → Option Res} (st : St0 T S O H σ env) (h : bndR (Res.o (ev T.F ea env)) k = some r) (post : Post T W S O H σ Q r) {R : V → Hp → Prop}
    (go : ∀ x e1 S1 O1 H1 vx, Res.o (ev T.F ea env) = some (.ok x e1) → Step S O H S1 O1 H1 → St0 T S1 O1 H1 σ e1 → OpV T.K σ S1 vx x → k x e1 = some r → Post T W S1 O1 H1 σ Q r → R vx H1) : tO W T ea σ H R := by
  cases q : Res.o (ev T.F ea env) with
  | none => rw [q] at h; simp [bndR] at h
  | some r1 =>
    rw [q] at h
    refine ⟨S, O, env, r1, st, q, ?_⟩
    cases r1 with
    | exc c e1 =>
      simp [bndR] at h
      subst h
      exact post
    | ok v e1 =>
      intro S1 O1 H1 x s1 ⟨fp, hE, hv⟩
      refine go v e1 S1 O1 H1 x q s1 ⟨fp, hE⟩ ?_ h (post.step s1)
      cases v with
      | d d => exact hv
      | sl i => exact hv
      | fr c => exact (ro_fr q).elim
theorem two' {ea eb : E} {r : Res} {k : Val → Val → Env → Option Res} (st : St0 T S O H σ env) (h : (bndR (Res.o (ev T.F ea env)) fun x e1 => bndR (Res.o (ev T.F eb e1)) fun y e2 => k x y e2) = some r) (post : Post T W S O H σ Q r) {R : V → V → Hp → Prop}
    (go : ∀ x e1 y e2 S2 O2 H2 vx vy, Res.o (ev T.F ea env) = some (.ok x e1) → Res.o (ev T.F eb e1) = some (.ok y e2) → Step S O H S2 O2 H2 → St0 T S2 O2 H2 σ e2 → OpV T.K σ S2 vx x → OpV T.K σ S2 vy y → k x y e2 = some r → Post T W S2 O2 H2 σ Q r → R vx vy H2) :
    tO W T ea σ H fun vx H1 => tO W T eb σ H1 fun vy H2 => R vx vy H2 :=
  one' st h post fun x e1 S1 O1 H1 vx q1 s1 st1 ox h1 post1 => one' st1 h1 post1 fun y e2 S2 O2 H2 vy q2 s2 st2 oy h2 post2 => go x e1 y e2 S2 O2 H2 vx vy q1 q2 (s1.trans s2) st2 (ox.mono s2.ss) oy h2 post2

/-! ### what an operand shows -/
inductive Vw (K : PySem.W.Frag) (S H : Hp) : V → D → Prop
  | rp {v : V} {d : D} : Rp K S v d → Vw K S H v d
  | lst {a : Addr} {vs : List V} {xs : List D} : H a = some (.lst vs) → RpAll K S vs xs → Vw K S H (.ref a) (.list xs)
  | dic {a : Addr} {vs : List (Key × V)} {xs : List (Key × D)} : H a = some (.dK vs) → KvR K S vs xs → Vw K S H (.ref a) (.dict (xs.map fun p => (keyD p.1, p.2)))
theorem vw_of (st : St0 T S O H σ env) {v : V} {x : Val} {d : D} (o : OpV T.K σ S v x) (h : res env x = some d) : Vw T.K S H v d := by
  cases x with
  | d d' =>
    simp [res] at h
    subst h
    exact .rp o
  | fr c => exact o.elim
  | sl i =>
    obtain ⟨fp, hE⟩ := st
    simp only [res] at h
    split at h
    · rename_i xs e
      cases h
      obtain ⟨v', e1, r⟩ := hE.at_ i _ e
      have e2 : σ[i]? = some (some v) := o
      rw [e2] at e1
      cases e1
      generalize fp i = fi at r
      cases r with
      | lst q r => exact .lst q r
    · rename_i kvs e
      cases h
      obtain ⟨v', e1, r⟩ := hE.at_ i _ e
      have e2 : σ[i]? = some (some v) := o
      rw [e2] at e1
      cases e1
      generalize fp i = fi at r
      cases r with
      | dic q r => exact .dic q r
    · rename_i d' e
      cases h
      obtain ⟨v', e1, r⟩ := hE.at_ i _ e
      have e2 : σ[i]? = some (some v) := o
      rw [e2] at e1
      cases e1
      generalize fp i = fi at r
      cases r with
      | val q => exact .rp q
    · cases h
theorem Vw.int {v : V} {i : Int} (h : Vw T.K S H v (.int i)) : v = .int i := by
  cases h with
  | rp r => cases r; rfl
theorem Vw.str {v : V} {i : Str} (h : Vw T.K S H v (.str i)) : v = .str i := by
  cases h with
  | rp r => cases r; rfl
theorem Vw.bl {v : V} {i : Bool} (h : Vw T.K S H v (.bool i)) : v = .bl i := by
  cases h with
  | rp r => cases r; rfl
theorem Vw.non {v : V} (h : Vw T.K S H v .none) : v = .non := by
  cases h with
  | rp r => cases r; rfl
theorem Vw.list {v : V} {xs : List D} (h : Vw T.K S H v (.list xs)) (s : Sub S H) : ∃ a vs, v = .ref a ∧ H a = some (.lst vs) ∧ RpAll T.K S vs xs := by
  cases h with
  | rp r =>
    cases r with
    | lst e q => exact ⟨_, _, rfl, s _ _ e, q⟩
  | lst e q => exact ⟨_, _, rfl, e, q⟩
theorem Vw.tup {v : V} {xs : List D} (h : Vw T.K S H v (.tuple xs)) (s : Sub S H) : ∃ a vs, v = .ref a ∧ SqT T.K S a vs ∧ SqT T.K H a vs ∧ RpAll T.K S vs xs := by
  cases h with
  | rp r =>
    cases r with
    | tup e q => exact ⟨_, _, rfl, e, sqT_sub s e, q⟩
theorem flOf_some {kvs : List (D × D)} {ds : List D} (h : flOf kvs = some ds) : kvs = [(.none, .list ds)] := by
  unfold flOf at h
  split at h
  · cases h; rfl
  · cases h
theorem flOf_keys (ys : List (Key × D)) : flOf (ys.map fun p => (keyD p.1, p.2)) = none := by
  cases ys with
  | nil => rfl
  | cons p r => obtain ⟨k, d⟩ := p; cases k <;> rfl
theorem Vw.dict {v : V} {xs : List (D × D)} (h : Vw T.K S H v (.dict xs)) (n : flOf xs = none) : ∃ a vs ys, v = .ref a ∧ H a = some (.dK vs) ∧ KvR T.K S vs ys ∧ xs = ys.map fun p => (keyD p.1, p.2) := by
  cases h with
  | rp r => cases r; simp [flOf] at n
  | dic e q => exact ⟨_, _, _, rfl, e, q, rfl⟩
theorem Vw.fl {v : V} {xs : List (D × D)} {ds : List D} (h : Vw T.K S H v (.dict xs)) (s : Sub S H) (n : flOf xs = some ds) : ∃ a vs, v = .ref a ∧ SqL T.K H a vs ∧ RpAll T.K S vs ds := by
  cases flOf_some n
  generalize q : PyData.dict [(PyData.none, PyData.list ds)] = dd at h
  cases h with
  | rp r =>
    cases r with
    | fl e r =>
      cases q
      exact ⟨_, _, rfl, sq_sub s e, r⟩
    | _ => cases q
  | lst _ _ => cases q
  | dic e r =>
    injection q with q
    have := flOf_keys (by assumption)
    rw [← q] at this
    simp [flOf] at this
theorem Vw.dp {K : PySem.W.Frag} {v : V} {d : D} (h : Vw K S H v d) (s : Sub S H) (hd : d.canLay0 = true) : Dp K H v d := by
  cases h with
  | rp r => exact (r.mono s).dp hd
  | lst e q => exact .lst (SqL.of e) ((q.mono s).dp (by simpa [PyData.canLay0] using hd))
  | dic e q => simp [PyData.canLay0] at hd

/-! ### what is wanted behind a result -/
theorem fin_d {d : D} {x : V} (st : St0 T S O H σ env) (f : Fin1 T S O H σ env (.d d) Q) (r : Rp T.K S x d) : Q x H :=
  let ⟨fp, h⟩ := st; f S O H x .refl ⟨fp, h, r⟩
theorem fin_lst {ds : List D} {vs : List V} (st : St0 T S O H σ env) (f : Fin1 T S O H σ env (.fr (.lst ds)) Q) (r : RpAll T.K S vs ds) : ∀ p, H p = none → Q (.ref p) (upd H p (.lst vs)) := fun p hp => by
  obtain ⟨fp, h⟩ := st
  exact f S _ _ _ (Step.allocO hp) ⟨fp, h.allocO hp, [p], .lst upd_same r, fun a ha => by
    have e : a = p := by simpa using ha
    subst e
    exact ⟨.inr rfl, fun i => h.fresh hp i⟩⟩
theorem fin_dic (st : St0 T S O H σ env) (f : Fin1 T S O H σ env (.fr (.dic [])) Q) : ∀ p, H p = none → Q (.ref p) (upd H p (.dK [])) := fun p hp => by
  obtain ⟨fp, h⟩ := st
  exact f S _ _ _ (Step.allocO hp) ⟨fp, h.allocO hp, [p], .dic upd_same .nil, fun a ha => by
    have e : a = p := by simpa using ha
    subst e
    exact ⟨.inr rfl, fun i => h.fresh hp i⟩⟩
theorem fin_tup {ds : List D} {vs : List V} (st : St0 T S O H σ env) (f : Fin1 T S O H σ env (.d (.tuple ds)) Q) (r : RpAll T.K S vs ds) : ∀ p, H p = none → Q (.ref p) (upd H p (.tup vs)) := fun p hp => by
  obtain ⟨fp, h⟩ := st
  have s1 := Step.allocS (O := O) (o := .tup vs) hp h.sub
  exact f _ _ _ _ s1 ⟨fp, h.allocS hp, .tup (SqT.of upd_same) (r.mono s1.ss)⟩

/-! ### two-place operators -/
def binR (K : PySem.W.Frag) (op : Operator) : R2 := match op with
  | .Add => fun x y H Q => (rI0 fun i j => .int (i + j)) x y H Q ∨ (∃ i j, x = .str i ∧ y = .str j ∧ i.length + j.length ≤ sizeLine ∧ Q (.str (i ++ j)) H) ∨ rCat x y H Q
  | .Sub => rI0 fun i j => .int (i - j)
  | .Mult => fun x y H Q => (rI CMul fun i j => .int (i * j)) x y H Q ∨ rRep x y H Q
  | .FloorDiv => rI CDivN fun i j => .int (i.fdiv j)
  | .Mod => rI (fun _ j => j ≠ 0) fun i j => .int (i.fmod j)
  | .Pow => rI CPow fun i j => .int (i ^ j.toNat)
  | .LShift => rI CPow fun i j => .int (i * 2 ^ j.toNat)
  | .RShift => rI (fun _ j => 0 ≤ j) fun i j => .int (i / 2 ^ j.toNat)
  | .BitAnd => rI0 fun i j => .int (Builtin.bitAnd i j)
  | .BitOr => rI0 fun i j => .int (Builtin.bitOr i j)
  | .BitXor => rI0 fun i j => .int (Builtin.bitXor i j)
  | _ => fun _ _ _ _ => False
theorem bin_ok {X : Cx} (op : Operator) : OpR X (binaryOp op) (binR X.K op) := by
  cases op with
  | Add => exact op_add.or (op_add_str.or op_cat)
  | Sub => exact op_sub
  | Mult => exact op_mul.or op_rep
  | FloorDiv => exact op_fdivN
  | Mod => exact op_modN
  | Pow => exact op_pow
  | LShift => exact op_shl
  | RShift => exact op_shr
  | BitAnd => exact op_and
  | BitOr => exact op_or
  | BitXor => exact op_xor
  | _ => exact fun _ _ _ _ _ _ _ _ _ _ _ _ h => h.elim
theorem line_eq : sizeLine = line := by rw [sizeLine_eq]; rfl
theorem RpAll.rep {vs : List V} {ds : List D} (r : RpAll T.K S vs ds) : ∀ k : Nat, RpAll T.K S (List.replicate k vs).flatten (List.replicate k ds).flatten
  | 0 => .nil
  | k + 1 => by
    rw [List.replicate_succ, List.replicate_succ, List.flatten_cons, List.flatten_cons]
    exact r.append (RpAll.rep r k)
theorem bin_red {X : Cx} {K : PySem.W.Frag} {op : Operator} {vx vy : V} {dx dy : D} {v : Val} (st : St0 T S O H σ env) (hx : Vw T.K S H vx dx) (hy : Vw T.K S H vy dy) (hb : binD op dx dy = some v) (f : Fin1 T S O H σ env v Q) : binR K op vx vy H Q := by
  have sub := st.sub
  unfold binD at hb
  split at hb
  · -- ints
    rename_i i j
    cases hx.int
    cases hy.int
    unfold binI at hb
    split at hb
    · cases hb; exact .inl ⟨i, j, rfl, rfl, fin_d st f (.int _)⟩
    · cases hb; exact ⟨i, j, rfl, rfl, fin_d st f (.int _)⟩
    · split at hb
      · rename_i q
        cases hb
        exact .inl ⟨i, j, rfl, rfl, (by simpa [mulOk, powOk, CMul, CDivN, CPow] using q), fin_d st f (.int _)⟩
      · cases hb
    · split at hb
      · rename_i q
        cases hb
        exact ⟨i, j, rfl, rfl, (by simpa [mulOk, powOk, CMul, CDivN, CPow] using q), fin_d st f (.int _)⟩
      · cases hb
    · split at hb
      · rename_i q
        cases hb
        exact ⟨i, j, rfl, rfl, (by simpa [mulOk, powOk, CMul, CDivN, CPow] using q), fin_d st f (.int _)⟩
      · cases hb
    · split at hb
      · rename_i q
        cases hb
        exact ⟨i, j, rfl, rfl, (by simpa [mulOk, powOk, CMul, CDivN, CPow] using q), fin_d st f (.int _)⟩
      · cases hb
    · split at hb
      · rename_i q
        cases hb
        exact ⟨i, j, rfl, rfl, (by simpa [mulOk, powOk, CMul, CDivN, CPow] using q), fin_d st f (.int _)⟩
      · cases hb
    · split at hb
      · rename_i q
        cases hb
        exact ⟨i, j, rfl, rfl, (by simpa [mulOk, powOk, CMul, CDivN, CPow] using q), fin_d st f (.int _)⟩
      · cases hb
    · cases hb; exact ⟨i, j, rfl, rfl, fin_d st f (.int _)⟩
    · cases hb; exact ⟨i, j, rfl, rfl, fin_d st f (.int _)⟩
    · cases hb; exact ⟨i, j, rfl, rfl, fin_d st f (.int _)⟩
    · cases hb
  · rename_i a b
    cases hx.str
    cases hy.str
    split at hb
    · split at hb
      · rename_i q
        cases hb
        exact .inr (.inl ⟨a, b, rfl, rfl, by rw [line_eq]; exact q, fin_d st f (.str _)⟩)
      · cases hb
    · cases hb
  · rename_i a b
    obtain ⟨p, vs, rfl, e1, r1⟩ := hx.list sub
    obtain ⟨p2, vs2, rfl, e2, r2⟩ := hy.list sub
    split at hb
    · split at hb
      · rename_i q
        cases hb
        refine .inr (.inr ⟨p, p2, vs, vs2, rfl, rfl, e1, e2, by rw [line_eq, r1.length, r2.length]; exact q, fin_lst st f (r1.append r2)⟩)
      · cases hb
    · cases hb
  · rename_i a k
    obtain ⟨p, vs, rfl, e1, r1⟩ := hx.list sub
    cases hy.int
    split at hb
    · split at hb
      · rename_i q
        cases hb
        have q := of_decide_eq_true q
        exact .inr ⟨p, k, vs, rfl, rfl, e1, q.1, q.2.1, by rw [line_eq, r1.length]; exact q.2.2, fin_lst st f (r1.rep _)⟩
      · cases hb
    · cases hb
  · cases hb
theorem ofO_some {α : Type} {o : Option α} {f : α → Option Res} {r : Res} (h : ofO o f = some r) : ∃ a, o = some a ∧ f a = some r := by
  cases o with
  | none => simp [ofO] at h
  | some a => exact ⟨a, rfl, h⟩
theorem pe_bin {X : Cx} {a b : Expr} {ea eb : E} {op : Operator} {pos : Pos} (ha : PE X a (tE W T ea)) (hb : PE X b (tE W T eb)) : PE X (.BinOp a op b pos) (tE W T (.bin op ea eb)) := by
  refine (pe_op (bin_ok op) (pe_o ha) (pe_o hb)).wk fun σ H Q h => ?_
  obtain ⟨S, O, env, r, st, hr, post⟩ := h
  simp only [ev] at hr
  refine two st hr post fun x y e2 S2 O2 H2 vx vy s2 st2 ox oy hk post2 => ?_
  obtain ⟨dx, h1, hk⟩ := ofO_some hk
  obtain ⟨dy, h2, hk⟩ := ofO_some hk
  obtain ⟨v, h3, hk⟩ := ofO_some hk
  cases hk
  exact bin_red (X := X) st2 (vw_of st2 ox h1) (vw_of st2 oy h2) h3 post2
end
end Fin
/-! Fin 4: more expressions. -/
namespace Fin
open PySem PySem.Spec PyProof.Rows L2
section
variable {X : Cx} {T : Tbl} {W : WX} {S H : Hp} {O : Addr → Prop} {σ : L2.St} {env : Env} {Q : VK}

/-! ### names, constants -/
theorem pe_evar {i : Nat} {x : Str} {pos : Pos} (hN : X.N[i]? = some x) (hv : Vis X.env.scope x) (hd : (x == ("__debug__" : Str)) = false) (hcd : (x == ("__classdict__" : Str)) = false) : PE X (.Name x pos) (tE W T (.var i)) := by
  refine (pe_var hN hv hd hcd).wk fun σ H Q h => ?_
  obtain ⟨S, O, env, r, ⟨fp, hE⟩, hr, post⟩ := h
  simp only [ev] at hr
  split at hr
  · rename_i d e
    cases hr
    obtain ⟨v, e1, rc⟩ := hE.at_ i _ e
    generalize fp i = fi at rc
    cases rc with
    | val rp => exact ⟨v, e1, fin_d ⟨fp, hE⟩ post rp⟩
  · rename_i c hn e
    cases hr
    obtain ⟨v, e1, rc⟩ := hE.at_ i _ e
    exact ⟨v, e1, post S O H v .refl ⟨fp, hE, e1⟩⟩
  · cases hr
theorem rp_scal {d : D} (h : scalD d = true) : ∃ v, ∀ S : Hp, Rp T.K S v d := by
  cases d with
  | none => exact ⟨.non, fun _ => .non⟩
  | bool b => exact ⟨.bl b, fun _ => .bl b⟩
  | int i => exact ⟨.int i, fun _ => .int i⟩
  | str s => exact ⟨.str s, fun _ => .str s⟩
  | list _ => cases h
  | tuple _ => cases h
  | dict _ => cases h
theorem pe_const {e : Expr} {d : D} {v : V} (h : PE X e (tC v)) (hv : ∀ S : Hp, Rp T.K S v d) : PE X e (tE W T (.c d)) := by
  refine h.wk fun σ H Q h => ?_
  obtain ⟨S, O, env, r, st, hr, post⟩ := h
  simp only [ev] at hr
  split at hr
  · cases hr
    exact fin_d st post (hv S)
  · cases hr
theorem pe_cint {i : Int} {j pos} : PE X (.Constant (.int i) j pos) (tE W T (.c (.int i))) := pe_const pe_int fun _ => .int i
theorem pe_cbl {b : Bool} {j pos} : PE X (.Constant (.bool b) j pos) (tE W T (.c (.bool b))) := pe_const pe_bl fun _ => .bl b
theorem pe_cnon {j pos} : PE X (.Constant .none j pos) (tE W T (.c .none)) := pe_const pe_non fun _ => .non
theorem pe_cstr {x : Str} {j pos} : PE X (.Constant (.str x) j pos) (tE W T (.c (.str x))) := pe_const pe_str fun _ => .str x
theorem pe_eglob {x : Str} {pos : Pos} (hg : Gl X x) (hd : (x == ("__debug__" : Str)) = false) (hc : ∀ d, T.F.cons x = some d → ∃ u v, X.mg x = some u ∧ RelV v u ∧ ∀ S : Hp, Rp T.K S v d) : PE X (.Name x pos) (tE W T (.glob x)) := by
  cases e : T.F.cons x with
  | none =>
    refine ⟨fun pins s σ H Q I h => ?_⟩
    obtain ⟨S, O, env, r, st, hr, post⟩ := h
    simp [ev, e] at hr
  | some d =>
    obtain ⟨u, v, hm, rv, rp⟩ := hc d e
    refine (pe_glob hg hm rv hd).wk fun σ H Q h => ?_
    obtain ⟨S, O, env, r, st, hr, post⟩ := h
    simp [ev, e] at hr
    cases hr
    exact fin_d st post (rp S)

/-! ### one-place operators -/
def unR (op : UnaryOp) : V → Hp → VK → Prop := match op with
  | .USub => rU fun i => .int (-i)
  | .Invert => rU fun i => .int (Builtin.bitNot i)
  | _ => fun _ _ _ => False
theorem un_ok (op : UnaryOp) : UnR X (unaryOp op) (unR op) := by
  cases op with
  | USub => exact un_neg
  | Invert => exact un_inv
  | _ => exact fun _ _ _ _ _ _ _ _ _ h => h.elim
theorem pe_eun {a : Expr} {ea : E} {op : UnaryOp} {pos : Pos} (ha : PE X a (tE W T ea)) : PE X (.UnaryOp op a pos) (tE W T (.un op ea)) := by
  refine (pe_un (un_ok op) (pe_o ha)).wk fun σ H Q h => ?_
  obtain ⟨S, O, env, r, st, hr, post⟩ := h
  simp only [ev] at hr
  refine one st hr post fun x e1 S1 O1 H1 vx s1 st1 ox hk post1 => ?_
  obtain ⟨dx, h1, hk⟩ := ofO_some hk
  obtain ⟨v, h3, hk⟩ := ofO_some hk
  cases hk
  have hx := vw_of st1 ox h1
  unfold unD at h3
  split at h3
  · cases h3
    cases hx.int
    exact ⟨_, rfl, fin_d st1 post1 (.int _)⟩
  · cases h3
    cases hx.int
    exact ⟨_, rfl, fin_d st1 post1 (.int _)⟩
  · cases h3

/-! ### comparisons -/
theorem flat_rp {v : V} {d : D} (r : Rp T.K S v d) (f : flatD d = true) : flatV v = true := by
  cases r <;> first | rfl | cases f
theorem flat_eqv {v w : V} {d e : D} (r : Rp T.K S v d) (q : Rp T.K S w e) (f : flatD d = true) (g : flatD e = true) : eqV v w = PyData.eqv d e := by
  cases r <;> cases q <;> first | rfl | (cases f; done) | (cases g; done) | simp [eqV, PyData.eqv]
theorem flat_all {vs : List V} {ds : List D} (r : RpAll T.K S vs ds) : ds.all flatD = true → vs.all flatV = true := by
  induction ds generalizing vs with
  | nil => cases r; exact fun _ => rfl
  | cons d ds ih =>
    intro h
    cases r with
    | cons r1 r2 =>
      simp only [List.all_cons, Bool.and_eq_true] at h ⊢
      exact ⟨flat_rp r1 h.1, ih r2 h.2⟩
theorem in_eq {v : V} {d : D} (q : Rp T.K S v d) (f : flatD d = true) {vs : List V} {ds : List D} (r : RpAll T.K S vs ds) : ds.all flatD = true → inV v vs = inD d ds := by
  unfold inV inD
  induction ds generalizing vs with
  | nil => cases r; exact fun _ => rfl
  | cons x ds ih =>
    intro h
    cases r with
    | cons r1 r2 =>
      simp only [List.all_cons, Bool.and_eq_true] at h
      simp only [List.any_cons, flat_eqv r1 q h.1 f, ih r2 h.2]
def cmpR (K : PySem.W.Frag) (op : CmpOp) : R2 := match op with
  | .Eq => rEqD K
  | .NotEq => rNeD K
  | .Lt => rI0 fun i j => .bl (decide (i < j))
  | .LtE => rI0 fun i j => .bl (decide (i ≤ j))
  | .Gt => rI0 fun i j => .bl (decide (j < i))
  | .GtE => rI0 fun i j => .bl (decide (j ≤ i))
  | .Is => fun x y H Q => y = .non ∧ Q (.bl (decide (x = .non))) H
  | .IsNot => fun x y H Q => y = .non ∧ Q (.bl (!decide (x = .non))) H
  | .In => fun x y H Q => rIn K false x y H Q ∨ ∃ a o, y = .ref a ∧ DGet H a x o ∧ Q (.bl o.isSome) H
  | .NotIn => fun x y H Q => rIn K true x y H Q ∨ ∃ a o, y = .ref a ∧ DGet H a x o ∧ Q (.bl (!o.isSome)) H
theorem cmp_ok (op : CmpOp) (hu : X.A.units + 64 < cLine) : OpR X (compareOp op) (cmpR X.K op) := by
  have hu1 : X.A.units + 1 < cLine := by omega
  cases op with
  | Eq => exact op_eqD hu
  | NotEq => exact op_neD hu
  | Lt => exact op_lt
  | LtE => exact op_le
  | Gt => exact op_gt
  | GtE => exact op_ge
  | Is => exact op_isN
  | IsNot => exact op_notN
  | In =>
    refine op_in_seq.or fun pins s σ H x y v u Q I rx ry h => ?_
    obtain ⟨a, o, rfl, g, q⟩ := h
    cases ry
    exact d_in hu1 I g rx fun s3 I3 => ⟨.bl o.isSome, H, I3, rfl, q⟩
  | NotIn =>
    refine op_notIn_seq.or fun pins s σ H x y v u Q I rx ry h => ?_
    obtain ⟨a, o, rfl, g, q⟩ := h
    cases ry
    exact d_notIn hu1 I g rx fun s3 I3 => ⟨.bl (!o.isSome), H, I3, rfl, q⟩
theorem shp_nodict {d : D} (h : shp d = true) : ∀ kvs, d ≠ .dict kvs := fun kvs e => by
  subst e
  have h2 := SeqAt.canLay_of_shaped h
  simp [PyData.canLay0] at h2
theorem keyOf_keyD (k : Key) : keyOf (keyD k) = some k := by cases k <;> rfl
theorem key_vw {v : V} {d : D} {k : Key} (h : Vw T.K S H v d) (e : keyOf d = some k) : v = kV k := by
  cases d <;> simp [keyOf] at e
  · subst e; exact h.int
  · subst e; exact h.str
theorem kv_val {vs : List (Key × V)} {ys : List (Key × D)} (r : KvR T.K S vs ys) (k : Key) : match (ys.find? fun p => decide (p.1 = k)).map (·.2) with
    | some d => ∃ v, valV vs k = some v ∧ Rp T.K S v d
    | none => valV vs k = none := by
  induction r with
  | nil => rfl
  | @cons p q l1 l2 h t ih =>
    obtain ⟨k1, v1⟩ := p
    obtain ⟨k2, d2⟩ := q
    obtain ⟨e, rp⟩ := h
    have e : k1 = k2 := e
    subst e
    by_cases hk : k1 = k
    · rw [List.find?_cons_of_pos (by simpa using hk), valV_pos (p := (k1, v1)) hk]
      exact ⟨v1, rfl, rp⟩
    · rw [List.find?_cons_of_neg (by simpa using hk), valV_neg (p := (k1, v1)) hk]
      exact ih
theorem dict_find (ys : List (Key × D)) (k : Key) : ((ys.map fun p => (keyD p.1, p.2)).find? fun p => decide (keyOf p.1 = some k)) = (ys.find? fun p => decide (p.1 = k)).map fun p => (keyD p.1, p.2) := by
  induction ys with
  | nil => rfl
  | cons p ys ih =>
    rw [List.map_cons]
    by_cases hk : p.1 = k
    · rw [List.find?_cons_of_pos (by simp [keyOf_keyD, hk]), List.find?_cons_of_pos (by simpa using hk)]; rfl
    · rw [List.find?_cons_of_neg (by simp [keyOf_keyD, hk]), List.find?_cons_of_neg (by simpa using hk)]; exact ih
theorem dict_any (ys : List (Key × D)) (k : Key) : ((ys.map fun p => (keyD p.1, p.2)).any fun p => decide (keyOf p.1 = some k)) = (ys.find? fun p => decide (p.1 = k)).isSome := by
  rw [List.any_map]
  induction ys with
  | nil => rfl
  | cons p ys ih =>
    by_cases hk : p.1 = k
    · rw [List.find?_cons_of_pos (by simpa using hk)]
      simp [keyOf_keyD, hk]
    · rw [List.find?_cons_of_neg (by simpa using hk), List.any_cons, ih]
      simp [keyOf_keyD, hk]
theorem dict_get {v w : V} {d : D} {kvs : List (D × D)} {k : Key} (hx : Vw T.K S H v d) (hy : Vw T.K S H w (.dict kvs)) (n : flOf kvs = none) (e : keyOf d = some k) :
    ∃ a o, w = .ref a ∧ DGet H a v o ∧ o.isSome = (kvs.any fun p => decide (keyOf p.1 = some k)) ∧ ∀ dv, (kvs.find? fun p => decide (keyOf p.1 = some k)).map (·.2) = some dv → ∃ vv, o = some vv ∧ Rp T.K S vv dv := by
  obtain ⟨a, vs, ys, rfl, ha, r, rfl⟩ := hy.dict n
  have hv := key_vw hx e
  subst hv
  refine ⟨a, valV vs k, rfl, DGet.k ha, ?_, fun dv hdv => ?_⟩
  · rw [dict_any]
    have q := kv_val r k
    cases f : ys.find? fun p => decide (p.1 = k) with
    | none =>
      rw [f] at q
      simp at q
      rw [q]
      rfl
    | some p =>
      rw [f] at q
      obtain ⟨v, q, _⟩ := q
      rw [q]
      rfl
  · rw [dict_find] at hdv
    have q := kv_val r k
    cases f : ys.find? fun p => decide (p.1 = k) with
    | none => rw [f] at hdv; simp at hdv
    | some p =>
      rw [f] at q hdv
      simp at hdv
      subst hdv
      exact q
theorem is_non {v : V} {d : D} (h : Vw T.K S H v d) : decide (v = .non) = isND d := by
  cases h with
  | rp r => cases r <;> rfl
  | lst _ _ => rfl
  | dic _ _ => rfl
theorem is_non' {v : V} {d : D} (h : Vw T.K S H v d) : (!decide (v = .non)) = !isND d := by
  cases h with
  | rp r => cases r <;> rfl
  | lst _ _ => rfl
  | dic _ _ => rfl
theorem vw_flat {v : V} {d : D} (h : Vw T.K S H v d) (f : flatD d = true) : Rp T.K S v d := by
  cases h with
  | rp r => exact r
  | lst _ _ => cases f
  | dic _ _ => cases f
theorem cmp_red {K : PySem.W.Frag} {op : CmpOp} {vx vy : V} {dx dy : D} {b : Bool} (hK : T.K = K) (st : St0 T S O H σ env) (hx : Vw T.K S H vx dx) (hy : Vw T.K S H vy dy) (hb : cmpD op dx dy = some b) (f : Q (.bl b) H) : cmpR K op vx vy H Q := by
  subst hK
  have sub := st.sub
  cases op with
  | Eq =>
    simp only [cmpD] at hb
    split at hb
    · rename_i q
      cases hb
      simp only [Bool.and_eq_true] at q
      exact ⟨dx, dy, hx.dp sub (SeqAt.canLay_of_shaped q.1), hy.dp sub (SeqAt.canLay_of_shaped q.2), q.1, q.2, f⟩
    · cases hb
  | NotEq =>
    simp only [cmpD] at hb
    split at hb
    · rename_i q
      cases hb
      simp only [Bool.and_eq_true] at q
      exact ⟨dx, dy, hx.dp sub (SeqAt.canLay_of_shaped q.1), hy.dp sub (SeqAt.canLay_of_shaped q.2), q.1, q.2, f⟩
    · cases hb
  | Lt =>
    simp only [cmpD] at hb
    split at hb
    · cases hb
      exact ⟨_, _, hx.int, hy.int, f⟩
    · cases hb
  | LtE =>
    simp only [cmpD] at hb
    split at hb
    · cases hb
      exact ⟨_, _, hx.int, hy.int, f⟩
    · cases hb
  | Gt =>
    simp only [cmpD] at hb
    split at hb
    · cases hb
      exact ⟨_, _, hx.int, hy.int, f⟩
    · cases hb
  | GtE =>
    simp only [cmpD] at hb
    split at hb
    · cases hb
      exact ⟨_, _, hx.int, hy.int, f⟩
    · cases hb
  | Is =>
    simp only [cmpD] at hb
    split at hb
    · cases hb
      exact ⟨hy.non, by rw [is_non hx]; exact f⟩
    · cases hb
  | IsNot =>
    simp only [cmpD] at hb
    split at hb
    · cases hb
      exact ⟨hy.non, by rw [is_non' hx]; exact f⟩
    · cases hb
  | In =>
    simp only [cmpD] at hb
    split at hb
    · split at hb
      · rename_i q
        cases hb
        simp only [Bool.and_eq_true] at q
        obtain ⟨a, vs, rfl, e, r⟩ := hy.list sub
        exact .inl ⟨a, vs, rfl, .inl (SqL.of e), flat_rp (vw_flat hx q.1) q.1, flat_all r q.2, by rw [if_neg (by decide), in_eq (vw_flat hx q.1) q.1 r q.2]; exact f⟩
      · cases hb
    · split at hb
      · rename_i q
        cases hb
        simp only [Bool.and_eq_true] at q
        obtain ⟨a, vs, rfl, _, e, r⟩ := hy.tup sub
        exact .inl ⟨a, vs, rfl, .inr (e), flat_rp (vw_flat hx q.1) q.1, flat_all r q.2, by rw [if_neg (by decide), in_eq (vw_flat hx q.1) q.1 r q.2]; exact f⟩
      · cases hb
    · split at hb
      · rename_i k nf ek
        cases hb
        obtain ⟨a, o, e1, g, e2, _⟩ := dict_get hx hy nf ek
        exact .inr ⟨a, o, e1, g, by rw [e2]; exact f⟩
      · cases hb
    · cases hb
  | NotIn =>
    simp only [cmpD] at hb
    split at hb
    · split at hb
      · rename_i q
        cases hb
        simp only [Bool.and_eq_true] at q
        obtain ⟨a, vs, rfl, e, r⟩ := hy.list sub
        exact .inl ⟨a, vs, rfl, .inl (SqL.of e), flat_rp (vw_flat hx q.1) q.1, flat_all r q.2, by rw [if_pos (by decide), in_eq (vw_flat hx q.1) q.1 r q.2]; exact f⟩
      · cases hb
    · split at hb
      · rename_i q
        cases hb
        simp only [Bool.and_eq_true] at q
        obtain ⟨a, vs, rfl, _, e, r⟩ := hy.tup sub
        exact .inl ⟨a, vs, rfl, .inr (e), flat_rp (vw_flat hx q.1) q.1, flat_all r q.2, by rw [if_pos (by decide), in_eq (vw_flat hx q.1) q.1 r q.2]; exact f⟩
      · cases hb
    · split at hb
      · rename_i k nf ek
        cases hb
        obtain ⟨a, o, e1, g, e2, _⟩ := dict_get hx hy nf ek
        exact .inr ⟨a, o, e1, g, by rw [e2]; exact f⟩
      · cases hb
    · cases hb
theorem cmp_wk {K : PySem.W.Frag} {ea eb : E} {op : CmpOp} (hK : T.K = K) (h : tE W T (.cmp op ea eb) σ H Q) : tOp (cmpR K op) (tO W T ea) (tO W T eb) σ H Q := by
  obtain ⟨S, O, env, r, st, hr, post⟩ := h
  simp only [ev] at hr
  refine two st hr post fun x y e2 S2 O2 H2 vx vy s2 st2 ox oy hk post2 => ?_
  obtain ⟨dx, h1, hk⟩ := ofO_some hk
  obtain ⟨dy, h2, hk⟩ := ofO_some hk
  obtain ⟨v, h3, hk⟩ := ofO_some hk
  cases hk
  exact cmp_red hK st2 (vw_of st2 ox h1) (vw_of st2 oy h2) h3 (fin_d st2 post2 (.bl _))
theorem pe_ecmp {a b : Expr} {ea eb : E} {op : CmpOp} {pos : Pos} (hK : T.K = X.K) (hu : X.A.units + 64 < cLine) (ha : PE X a (tE W T ea)) (hb : PE X b (tE W T eb)) (hm : behindInMarks op b = false) : PE X (.Compare a [op] [b] pos) (tE W T (.cmp op ea eb)) :=
  (pe_cmpR (cmp_ok op hu) (pe_o ha) (pe_o hb) hm).wk fun σ H Q h => cmp_wk hK h
theorem chn_wk {K : PySem.W.Frag} {ea eb ec : E} {o1 o2 : CmpOp} (hK : T.K = K) (h : tE W T (.chn o1 o2 ea eb ec) σ H Q) : tChain (cmpR K o1) (cmpR K o2) (tO W T ea) (tO W T eb) (tO W T ec) σ H Q := by
  obtain ⟨S, O, env, r, st, hr, post⟩ := h
  simp only [ev] at hr
  refine two st hr post fun x y e2 S2 O2 H2 vx vy s2 st2 ox oy hk post2 => ?_
  obtain ⟨dx, h1, hk⟩ := ofO_some hk
  obtain ⟨dy, h2, hk⟩ := ofO_some hk
  obtain ⟨v, h3, hk⟩ := ofO_some hk
  refine cmp_red hK st2 (vw_of st2 ox h1) (vw_of st2 oy h2) h3 ⟨v, rfl, ?_⟩
  cases v with
  | false =>
    rw [if_neg Bool.false_ne_true] at hk
    cases hk
    rw [if_neg Bool.false_ne_true]
    exact fin_d st2 post2 (.bl _)
  | true =>
    rw [if_pos rfl] at hk
    rw [if_pos rfl]
    refine one st2 hk post2 fun z e3 S3 O3 H3 vz s3 st3 oz hk3 post3 => ?_
    obtain ⟨dy', g1, hk3⟩ := ofO_some hk3
    obtain ⟨dz, g2, hk3⟩ := ofO_some hk3
    obtain ⟨v, g3, hk3⟩ := ofO_some hk3
    cases hk3
    exact cmp_red hK st3 (vw_of st3 (oy.mono s3.ss) g1) (vw_of st3 oz g2) g3 (fin_d st3 post3 (.bl _))
theorem pe_echn {a b c : Expr} {ea eb ec : E} {o1 o2 : CmpOp} {pos : Pos} (hK : T.K = X.K) (hu : X.A.units + 64 < cLine) (ha : PE X a (tE W T ea)) (hb : PE X b (tE W T eb)) (hc : PE X c (tE W T ec)) (hm : lastMarks [o1, o2] [b, c] = false) :
    PE X (.Compare a [o1, o2] [b, c] pos) (tE W T (.chn o1 o2 ea eb ec)) := (pe_chain (cmp_ok o1 hu) (cmp_ok o2 hu) (pe_o ha) (pe_o hb) (pe_o hc) hm).wk fun σ H Q h => chn_wk hK h

/-! ### and, or, not as values -/
theorem pe_eone {op : BoolOp} {a : Expr} {ea : E} {pos : Pos} (h : PE X a (tE W T ea)) : PE X (.BoolOp op [a] pos) (tE W T ea) := pe_one h
theorem tO_of {e : E} {r : Res} (st : St0 T S O H σ env) (h : Res.o (ev T.F e env) = some r) (post : Post T W S O H σ Q r) : tO W T e σ H Q := ⟨S, O, env, r, st, h, post⟩
theorem pe_eand {a b : Expr} {rest : List Expr} {ea eb : E} {pos : Pos} (ha : PE X a (tE W T ea)) (hb : PE X (.BoolOp .And (b :: rest) pos) (tE W T eb)) : PE X (.BoolOp .And (a :: b :: rest) pos) (tE W T (.and ea eb)) := by
  refine (pe_and (pe_o ha) (pe_o hb)).wk fun σ H Q h => ?_
  obtain ⟨S, O, env, r, st, hr, post⟩ := h
  simp only [ev] at hr
  refine one st hr post fun x e1 S1 O1 H1 vx s1 st1 ox hk post1 => ?_
  split at hk
  · cases (show Rp T.K S1 vx (.bool true) from ox)
    exact ⟨true, rfl, by rw [if_pos rfl]; exact tO_of st1 hk post1⟩
  · cases (show Rp T.K S1 vx (.bool false) from ox)
    cases hk
    exact ⟨false, rfl, by rw [if_neg Bool.false_ne_true]; exact fin_d st1 post1 (.bl _)⟩
  · cases hk
theorem pe_eor {a b : Expr} {rest : List Expr} {ea eb : E} {pos : Pos} (ha : PE X a (tE W T ea)) (hb : PE X (.BoolOp .Or (b :: rest) pos) (tE W T eb)) : PE X (.BoolOp .Or (a :: b :: rest) pos) (tE W T (.or ea eb)) := by
  refine (pe_or (pe_o ha) (pe_o hb)).wk fun σ H Q h => ?_
  obtain ⟨S, O, env, r, st, hr, post⟩ := h
  simp only [ev] at hr
  refine one st hr post fun x e1 S1 O1 H1 vx s1 st1 ox hk post1 => ?_
  split at hk
  · cases (show Rp T.K S1 vx (.bool true) from ox)
    cases hk
    exact ⟨true, rfl, by rw [if_pos rfl]; exact fin_d st1 post1 (.bl _)⟩
  · cases (show Rp T.K S1 vx (.bool false) from ox)
    exact ⟨false, rfl, by rw [if_neg Bool.false_ne_true]; exact tO_of st1 hk post1⟩
  · cases hk
theorem pe_enot {a : Expr} {ea : E} {pos : Pos} (ha : PE X a (tE W T ea)) : PE X (.UnaryOp .Not a pos) (tE W T (.not ea)) := by
  refine (pe_not (pe_o ha)).wk fun σ H Q h => ?_
  obtain ⟨S, O, env, r, st, hr, post⟩ := h
  simp only [ev] at hr
  refine one st hr post fun x e1 S1 O1 H1 vx s1 st1 ox hk post1 => ?_
  split at hk
  · rename_i b
    cases (show Rp T.K S1 vx (.bool b) from ox)
    cases hk
    exact ⟨b, rfl, fin_d st1 post1 (.bl _)⟩
  · cases hk

/-! ### tests -/
def PostT (T : Tbl) (W : WX) (S : Hp) (O : Addr → Prop) (H : Hp) (σ : L2.St) (Q : Bool → Hp → Prop) : RsT → Prop
  | .ok b env => ∀ S' O' H', Step S O H S' O' H' → St0 T S' O' H' σ env → Q b H'
  | .exc c env => ∀ S' O' H', Step S O H S' O' H' → St0 T S' O' H' σ env → W (T.cls c) none σ H'
theorem PostT.step {S1 H1 : Hp} {O1 : Addr → Prop} {Q : Bool → Hp → Prop} {r : RsT} (s : Step S O H S1 O1 H1) (p : PostT T W S O H σ Q r) : PostT T W S1 O1 H1 σ Q r := by
  cases r with
  | ok v env => exact fun S' O' H' s' h => p S' O' H' (s.trans s') h
  | exc c env => exact fun S' O' H' s' h => p S' O' H' (s.trans s') h
def tT (W : WX) (T : Tbl) (c : Te) : TT := fun σ H Q => ∃ S O env r, St0 T S O H σ env ∧ evt T.F c env = some r ∧ PostT T W S O H σ Q r
theorem ist_of {r : Option Res} {q : RsT} (h : RsT.of r = some q) : (∃ v env d b, r = some (.ok v env) ∧ res env v = some d ∧ truD d = some b ∧ q = .ok b env) ∨ ∃ c env, r = some (.exc c env) ∧ q = .exc c env := by
  unfold RsT.of at h
  split at h
  · rename_i v env
    split at h
    · rename_i d hd
      cases ht : truD d with
      | none => rw [ht] at h; cases h
      | some b =>
        rw [ht] at h
        cases h
        exact .inl ⟨v, env, d, b, rfl, hd, ht, rfl⟩
    · cases h
  · rename_i c env
    cases h
    exact .inr ⟨c, env, rfl, rfl⟩
  · cases h
/-- the value behind an operand, its truth -/
theorem tst_o {ea : E} {Q : Bool → Hp → Prop} {R : V → Hp → Prop} (h : tT W T (.val ea) σ H Q) (go : ∀ S1 O1 H1 e1 vx d b, St0 T S1 O1 H1 σ e1 → Vw T.K S1 H1 vx d → truD d = some b → Q b H1 → R vx H1) : tO W T ea σ H R := by
  obtain ⟨S, O, env, r, st, hr, post⟩ := h
  simp only [evt] at hr
  rcases ist_of hr with ⟨v, e1, d, b, h1, h2, h3, rfl⟩ | ⟨c, e1, h1, rfl⟩
  · refine ⟨S, O, env, _, st, h1, fun S1 O1 H1 vx s1 ⟨fp, hE, hv⟩ => ?_⟩
    have ov : OpV T.K σ S1 vx v := by
      cases v with
      | d d => exact hv
      | sl i => exact hv
      | fr c => exact (ro_fr h1).elim
    exact go S1 O1 H1 e1 vx d b ⟨fp, hE⟩ (vw_of ⟨fp, hE⟩ ov h2) h3 (post S1 O1 H1 s1 ⟨fp, hE⟩)
  · exact ⟨S, O, env, _, st, h1, post⟩
theorem rpa_empty {vs : List V} {ds : List D} (r : RpAll T.K S vs ds) : ds.isEmpty = vs.isEmpty := by cases r <;> rfl
theorem tru_of {K : PySem.W.Frag} {v : V} {d : D} {b : Bool} (hK : T.K = K) (sub : Sub S H) (h : Vw T.K S H v d) (e : truD d = some b) : TruV K v H b := by
  subst hK
  unfold truD at e
  split at e
  · cases e; cases h.non; rfl
  · cases e; cases h.bl; rfl
  · cases e; cases h.int; rfl
  · split at e
    · rename_i s q
      cases e
      cases h.str
      refine ⟨by rw [line_eq]; exact q, ?_⟩
      show (s.length != 0) = ((s.length : Int) != 0)
      by_cases z : s.length = 0
      · rw [z]; rfl
      · have z2 : (s.length : Int) ≠ 0 := by omega
        rw [bne_iff_ne.mpr z, bne_iff_ne.mpr z2]
    · cases e
  · cases e
    obtain ⟨a, vs, rfl, e1, r⟩ := h.list sub
    exact .inl ⟨vs, SqL.of e1, by rw [rpa_empty r]⟩
  · cases e
    obtain ⟨a, vs, rfl, _, e1, r⟩ := h.tup sub
    exact .inr (.inl ⟨vs, e1, by rw [rpa_empty r]⟩)
  · cases e
/-- an expression whose test is its value's truth -/
theorem pt_etr {a : Expr} {ea : E} (hK : T.K = X.K) (ha : PE X a (tE W T ea)) (he : ∀ whole, isTrue a X.env whole = (do let v ← whole; standAt a.pos; holding [v] (truthy v))) : PT X a (tT W T (.val ea)) :=
  (pt_truth (pe_o ha) he).wk fun σ H Q h => tst_o h fun S1 O1 H1 e1 vx d b st1 hv ht q => ⟨b, tru_of hK st1.sub hv ht, q⟩
/-- a comparison as a test -/
theorem t_cmp {e : E} {Q : Bool → Hp → Prop} (hb : ∀ env r, ev T.F e env = some r → (∃ b e1, r = .ok (.d (.bool b)) e1) ∨ ∃ c e1, r = .exc c e1) (h : tT W T (.val e) σ H Q) : tE W T e σ H fun x H' => ∃ k, x = .bl k ∧ Q k H' := by
  obtain ⟨S, O, env, r, st, hr, post⟩ := h
  simp only [evt] at hr
  cases q : ev T.F e env with
  | none => rw [q] at hr; simp [Res.o, RsT.of] at hr
  | some r1 =>
    rw [q] at hr
    refine ⟨S, O, env, r1, st, q, ?_⟩
    rcases hb env r1 q with ⟨b, e1, rfl⟩ | ⟨c, e1, rfl⟩
    · simp [Res.o, RsT.of, res, truD] at hr
      subst hr
      intro S1 O1 H1 x s1 ⟨fp, hE, hv⟩
      cases (show Rp T.K S1 x (.bool b) from hv)
      exact ⟨b, rfl, post S1 O1 H1 s1 ⟨fp, hE⟩⟩
    · simp [Res.o, RsT.of] at hr
      subst hr
      exact post
theorem bnd_some {r : Option Res} {k : Val → Env → Option Res} {q : Res} (h : bndR r k = some q) : (∃ v e, r = some (.ok v e) ∧ k v e = some q) ∨ ∃ c e, r = some (.exc c e) ∧ q = .exc c e := by
  cases r with
  | none => cases h
  | some r =>
    cases r with
    | ok v e => exact .inl ⟨v, e, rfl, h⟩
    | exc c e => cases h; exact .inr ⟨c, e, rfl, rfl⟩
theorem cmp_bool {ea eb : E} {op : CmpOp} : ∀ env r, ev T.F (.cmp op ea eb) env = some r → (∃ b e1, r = .ok (.d (.bool b)) e1) ∨ ∃ c e1, r = .exc c e1 := fun env r h => by
  simp only [ev] at h
  rcases bnd_some h with ⟨v, e, _, h⟩ | ⟨c, e, _, rfl⟩
  · rcases bnd_some h with ⟨v, e, _, h⟩ | ⟨c, e, _, rfl⟩
    · obtain ⟨dx, h1, h⟩ := ofO_some h
      obtain ⟨dy, h2, h⟩ := ofO_some h
      obtain ⟨b, h3, h⟩ := ofO_some h
      cases h
      exact .inl ⟨b, _, rfl⟩
    · exact .inr ⟨c, e, rfl⟩
  · exact .inr ⟨c, e, rfl⟩
theorem chn_bool {ea eb ec : E} {o1 o2 : CmpOp} : ∀ env r, ev T.F (.chn o1 o2 ea eb ec) env = some r → (∃ b e1, r = .ok (.d (.bool b)) e1) ∨ ∃ c e1, r = .exc c e1 := fun env r h => by
  simp only [ev] at h
  rcases bnd_some h with ⟨v, e, _, h⟩ | ⟨c, e, _, rfl⟩
  · rcases bnd_some h with ⟨v, e, _, h⟩ | ⟨c, e, _, rfl⟩
    · obtain ⟨dx, h1, h⟩ := ofO_some h
      obtain ⟨dy, h2, h⟩ := ofO_some h
      obtain ⟨b, h3, h⟩ := ofO_some h
      split at h
      · rcases bnd_some h with ⟨v, e, _, h⟩ | ⟨c, e, _, rfl⟩
        · obtain ⟨dx, h1, h⟩ := ofO_some h
          obtain ⟨dy, h2, h⟩ := ofO_some h
          obtain ⟨b, h3, h⟩ := ofO_some h
          cases h
          exact .inl ⟨b, _, rfl⟩
        · exact .inr ⟨c, e, rfl⟩
      · cases h
        exact .inl ⟨_, _, rfl⟩
    · exact .inr ⟨c, e, rfl⟩
  · exact .inr ⟨c, e, rfl⟩
theorem pt_ecmp {a b : Expr} {ea eb : E} {op : CmpOp} {pos : Pos} (hK : T.K = X.K) (hu : X.A.units + 64 < cLine) (ha : PE X a (tE W T ea)) (hb : PE X b (tE W T eb)) (hm : behindInMarks op b = false) : PT X (.Compare a [op] [b] pos) (tT W T (.val (.cmp op ea eb))) :=
  (pt_cmpR (cmp_ok op hu) (pe_o ha) (pe_o hb) hm).wk fun σ H Q h => cmp_wk hK (t_cmp cmp_bool h)
theorem pt_echn {a b c : Expr} {ea eb ec : E} {o1 o2 : CmpOp} {pos : Pos} (hK : T.K = X.K) (hu : X.A.units + 64 < cLine) (ha : PE X a (tE W T ea)) (hb : PE X b (tE W T eb)) (hc : PE X c (tE W T ec)) (hm : lastMarks [o1, o2] [b, c] = false) :
    PT X (.Compare a [o1, o2] [b, c] pos) (tT W T (.val (.chn o1 o2 ea eb ec))) := (pt_chain (cmp_ok o1 hu) (cmp_ok o2 hu) (pe_o ha) (pe_o hb) (pe_o hc) hm).wk fun σ H Q h => chn_wk hK (t_cmp chn_bool h)
theorem pt_enot {a : Expr} {ca : Te} {pos : Pos} (ha : PT X a (tT W T ca)) : PT X (.UnaryOp .Not a pos) (tT W T (.not ca)) := by
  refine (pt_not ha).wk fun σ H Q h => ?_
  obtain ⟨S, O, env, r, st, hr, post⟩ := h
  simp only [evt] at hr
  cases q : evt T.F ca env with
  | none => rw [q] at hr; cases hr
  | some r1 =>
    rw [q] at hr
    refine ⟨S, O, env, r1, st, q, ?_⟩
    cases r1 with
    | ok b e1 => cases hr; exact post
    | exc c e1 => cases hr; exact post
theorem pw_eand1 {a : Expr} {ca : Te} {pos : Pos} (ha : PT X a (tT W T ca)) : PW X (.BoolOp .And [a] pos) (tT W T ca) := pw_and1 ha
theorem pw_eor1 {a : Expr} {ca : Te} {pos : Pos} (ha : PT X a (tT W T ca)) : PW X (.BoolOp .Or [a] pos) (tT W T ca) := pw_or1 ha
theorem pw_eand {a b : Expr} {rest : List Expr} {ca cb : Te} {pos : Pos} (ha : PT X a (tT W T ca)) (hb : PW X (.BoolOp .And (b :: rest) pos) (tT W T cb)) : PW X (.BoolOp .And (a :: b :: rest) pos) (tT W T (.and ca cb)) := by
  refine (pw_and ha hb).wk fun σ H Q h => ?_
  obtain ⟨S, O, env, r, st, hr, post⟩ := h
  simp only [evt] at hr
  cases q : evt T.F ca env with
  | none => rw [q] at hr; cases hr
  | some r1 =>
    rw [q] at hr
    refine ⟨S, O, env, r1, st, q, ?_⟩
    cases r1 with
    | ok b e1 =>
      intro S1 O1 H1 s1 st1
      cases b with
      | true => rw [if_pos rfl]; exact ⟨S1, O1, e1, r, st1, hr, post.step s1⟩
      | false => cases hr; rw [if_neg Bool.false_ne_true]; exact post S1 O1 H1 s1 st1
    | exc c e1 => cases hr; exact post
theorem pw_eor {a b : Expr} {rest : List Expr} {ca cb : Te} {pos : Pos} (ha : PT X a (tT W T ca)) (hb : PW X (.BoolOp .Or (b :: rest) pos) (tT W T cb)) : PW X (.BoolOp .Or (a :: b :: rest) pos) (tT W T (.or ca cb)) := by
  refine (pw_or ha hb).wk fun σ H Q h => ?_
  obtain ⟨S, O, env, r, st, hr, post⟩ := h
  simp only [evt] at hr
  cases q : evt T.F ca env with
  | none => rw [q] at hr; cases hr
  | some r1 =>
    rw [q] at hr
    refine ⟨S, O, env, r1, st, q, ?_⟩
    cases r1 with
    | ok b e1 =>
      intro S1 O1 H1 s1 st1
      cases b with
      | true => cases hr; rw [if_pos rfl]; exact post S1 O1 H1 s1 st1
      | false => rw [if_neg Bool.false_ne_true]; exact ⟨S1, O1, e1, r, st1, hr, post.step s1⟩
    | exc c e1 => cases hr; exact post
theorem pe_eite {c a b : Expr} {cc : Te} {ea eb : E} {pos : Pos} (hc : PT X c (tT W T cc)) (ha : PE X a (tE W T ea)) (hb : PE X b (tE W T eb)) : PE X (.IfExp c a b pos) (tE W T (.ite cc ea eb)) := by
  refine (pe_ifExp hc ha hb).wk fun σ H Q h => ?_
  obtain ⟨S, O, env, r, st, hr, post⟩ := h
  simp only [ev] at hr
  cases q : evt T.F cc env with
  | none => rw [q] at hr; cases hr
  | some r1 =>
    rw [q] at hr
    refine ⟨S, O, env, r1, st, q, ?_⟩
    cases r1 with
    | ok b e1 =>
      intro S1 O1 H1 s1 st1
      cases b with
      | true => rw [if_pos rfl]; exact ⟨S1, O1, e1, r, st1, hr, post.step s1⟩
      | false => rw [if_neg Bool.false_ne_true]; exact ⟨S1, O1, e1, r, st1, hr, post.step s1⟩
    | exc c e1 => cases hr; exact post
end
end Fin
/-! Fin 5: displays, subscripts, calls. -/
namespace Fin
open PySem PySem.Spec PyProof.Rows L2

/-! ### syntax -/
def plainE : Expr → Bool
  | .Name .. | .Constant .. | .BinOp .. | .UnaryOp .. | .BoolOp .. | .Compare .. | .IfExp .. | .Call .. | .Attribute .. | .Subscript .. | .List .. | .Tuple .. | .Dict .. | .ListComp .. | .JoinedStr .. => true
  | _ => false
theorem star_of {e : Expr} (h : plainE e = true) (es : List Expr) (env : PySem.Env) : starEach (e :: es) env = (false, eval e env) :: starEach es env := by
  cases e <;> first | rfl | cases h
theorem ix_of {e : Expr} (h : plainE e = true) : PlainIx e := by
  cases e <;> first | exact fun _ _ => rfl | cases h
def plainT : Expr → Bool
  | .Name .. | .Constant .. | .BinOp .. | .Call .. | .Attribute .. | .Subscript .. | .List .. | .Tuple .. | .Dict .. | .ListComp .. | .JoinedStr .. => true
  | _ => false
theorem tr_of {e : Expr} (h : plainT e = true) (env : PySem.Env) : ∀ whole, isTrue e env whole = (do let v ← whole; standAt e.pos; holding [v] (truthy v)) := by
  cases e <;> first | exact fun _ => rfl | cases h
def noSup : Expr → Bool
  | .Call .. => false
  | e => plainE e
theorem base_of {e : Expr} (h : noSup e = true) (a : Str) (env : PySem.Env) (w : Sem Value) : attributeBase e a env w = w := by
  cases e <;> first | rfl | cases h
def noComp : Expr → Bool
  | .ListComp .. => false
  | e => plainE e
theorem swap_of {e : Expr} (h : noComp e = true) (t : Option Expr) (l : Nat) (env : PySem.Env) : swapsWith e t l env = pure false := by
  cases e <;> first | rfl | cases h
theorem fold_of {e : Expr} (h : plainE e = true) (env : PySem.Env) : ∀ x, foldedSetIterable e env x = pure x := by
  cases e <;> first | exact fun _ => rfl | cases h
theorem behind_of {e : Expr} (h : plainE e = true) (op : CmpOp) : behindInMarks op e = false := by
  cases e <;> first | rfl | cases h
def plainEs (es : List Expr) : Bool := es.all plainE
theorem stars_of : ∀ {es : List Expr} (h : plainEs es = true) (env : PySem.Env), starEach es env = es.map fun e => (false, eval e env)
  | [], _, _ => rfl
  | e :: es, h, env => by
    simp only [plainEs, List.all_cons, Bool.and_eq_true] at h
    rw [star_of h.1, stars_of (es := es) h.2]
    rfl
theorem back_of {es : List Expr} (h : plainEs es = true) (env : PySem.Env) (pos : Pos) : (backTo pos (starEach es env)).any (·.1) = false := by
  rw [stars_of h]
  unfold backTo
  simp [List.any_map, Function.comp_def]

section
variable {X : Cx} {T : Tbl} {W : WX} {S H : Hp} {O : Addr → Prop} {σ : L2.St} {env : Env} {Q : VK}
/-! ### arguments -/
inductive OpVs (K : PySem.W.Frag) (σ : L2.St) (S : Hp) : List V → List Val → Prop
  | nil : OpVs K σ S [] []
  | cons {x : V} {xs : List V} {v : Val} {vs : List Val} : OpV K σ S x v → OpVs K σ S xs vs → OpVs K σ S (x :: xs) (v :: vs)
theorem OpVs.mono {K : PySem.W.Frag} {S S' : Hp} (e : Sub S S') {xs : List V} {vs : List Val} (h : OpVs K σ S xs vs) : OpVs K σ S' xs vs := by
  induction h with
  | nil => exact .nil
  | cons o _ ih => exact .cons (o.mono e) ih
theorem OpVs.length {xs : List V} {vs : List Val} (h : OpVs T.K σ S xs vs) : xs.length = vs.length := by
  induction h with
  | nil => rfl
  | cons _ _ ih => simp [ih]
def PostL (T : Tbl) (W : WX) (S : Hp) (O : Addr → Prop) (H : Hp) (σ : L2.St) (Q : List V → Hp → Prop) : RsL → Prop
  | .ok vs env => ∀ S' O' H' xs, Step S O H S' O' H' → St0 T S' O' H' σ env → OpVs T.K σ S' xs vs → Q xs H'
  | .exc c env => ∀ S' O' H', Step S O H S' O' H' → St0 T S' O' H' σ env → W (T.cls c) none σ H'
def tA (W : WX) (T : Tbl) (es : Es) : TA := fun σ H Q => ∃ S O env r, St0 T S O H σ env ∧ evs T.F es env = some r ∧ PostL T W S O H σ Q r
theorem pa_enil : PA X [] (tA W T .nil) := by
  refine pa_nil.wk fun σ H Q h => ?_
  obtain ⟨S, O, env, r, st, hr, post⟩ := h
  simp only [evs] at hr
  cases hr
  exact post S O H [] .refl st .nil
theorem pa_econs {e : Expr} {es : List Expr} {ea : E} {eas : Es} (he : PE X e (tE W T ea)) (hes : PA X es (tA W T eas)) (hp : plainE e = true) : PA X (e :: es) (tA W T (.cons ea eas)) := by
  refine (pa_cons (pe_o he) hes (star_of hp es _)).wk fun σ H Q h => ?_
  obtain ⟨S, O, env, r, st, hr, post⟩ := h
  simp only [evs] at hr
  cases q : Res.o (ev T.F ea env) with
  | none => rw [q] at hr; cases hr
  | some r1 =>
    rw [q] at hr
    refine ⟨S, O, env, r1, st, q, ?_⟩
    cases r1 with
    | exc c e1 => cases hr; exact post
    | ok v e1 =>
      intro S1 O1 H1 x s1 ⟨fp, hE, hv⟩
      have ov : OpV T.K σ S1 x v := by
        cases v with
        | d d => exact hv
        | sl i => exact hv
        | fr c => exact (ro_fr q).elim
      cases q2 : evs T.F eas e1 with
      | none => simp only [q2] at hr; cases hr
      | some r2 =>
        simp only [q2] at hr
        refine ⟨S1, O1, e1, r2, ⟨fp, hE⟩, q2, ?_⟩
        cases r2 with
        | exc c e2 => cases hr; exact fun S2 O2 H2 s2 st2 => post S2 O2 H2 (s1.trans s2) st2
        | ok vs e2 => cases hr; exact fun S2 O2 H2 xs s2 st2 os => post S2 O2 H2 (x :: xs) (s1.trans s2) st2 (.cons (ov.mono s2.ss) os)
/-- the arguments' values, seen -/
inductive VwL (K : PySem.W.Frag) (S H : Hp) : List V → List D → Prop
  | nil : VwL K S H [] []
  | cons {x : V} {xs : List V} {d : D} {ds : List D} : Vw K S H x d → VwL K S H xs ds → VwL K S H (x :: xs) (d :: ds)
theorem vwl_of (st : St0 T S O H σ env) : ∀ {xs : List V} {vs : List Val} {ds : List D}, OpVs T.K σ S xs vs → resL env vs = some ds → VwL T.K S H xs ds
  | _, _, _, .nil, h => by simp [resL] at h; subst h; exact .nil
  | _, _, ds, .cons o os, h => by
    simp only [resL] at h
    split at h
    · rename_i d hd
      obtain ⟨ds', h2, rfl⟩ := Option.map_eq_some_iff.mp h
      exact .cons (vw_of st o hd) (vwl_of st os h2)
    · cases h
theorem res_set {i : Nat} {zs : List D} (h : env[i]? = some (some (.lst zs))) (w : Val) : res (env.set i (some (.val (.list zs)))) w = res env w := by
  cases w with
  | d d => rfl
  | fr c => rfl
  | sl j =>
    by_cases hj : i = j
    · subst hj
      have hl : i < env.length := (List.getElem?_eq_some_iff.mp h).1
      simp only [res, List.getElem?_set_self hl, h]
    · simp only [res, List.getElem?_set_ne hj]
theorem resL_set {i : Nat} {zs : List D} (h : env[i]? = some (some (.lst zs))) : ∀ ws : List Val, resL (env.set i (some (.val (.list zs)))) ws = resL env ws
  | [] => rfl
  | w :: ws => by simp only [resL, res_set h, resL_set h ws]
/-- slots that are shown become values -/
theorem frz_of : ∀ {vs : List Val} {xs : List V} {S : Hp} {O : Addr → Prop} {env env' : Env}, St0 T S O H σ env → OpVs T.K σ S xs vs → frzS env vs = some env' →
    ∃ S' O', Step S O H S' O' H ∧ St0 T S' O' H σ env' ∧ ∀ ds, resL env vs = some ds → RpAll T.K S' xs ds
  | [], _, S, O, env, env', st, .nil, h => by
    simp [frzS] at h
    subst h
    exact ⟨S, O, .refl, st, fun ds e => by simp [resL] at e; subst e; exact .nil⟩
  | .d d :: vs, _, S, O, env, env', st, .cons (x := x) o os, h => by
    simp only [frzS] at h
    obtain ⟨S', O', s1, st1, k⟩ := frz_of st os h
    refine ⟨S', O', s1, st1, fun ds e => ?_⟩
    simp only [resL, res] at e
    obtain ⟨ds', h2, rfl⟩ := Option.map_eq_some_iff.mp e
    exact .cons (Rp.mono s1.ss o) (k ds' h2)
  | .fr _ :: _, _, _, _, _, _, _, .cons o _, _ => o.elim
  | .sl i :: vs, _, S, O, env, env', st, .cons (x := x) o os, h => by
    obtain ⟨fp, hE⟩ := st
    simp only [frzS] at h
    split at h
    · rename_i zs ez
      obtain ⟨v', e1, rc⟩ := hE.at_ i _ ez
      have e2 : σ[i]? = some (some x) := o
      rw [e2] at e1
      cases e1
      have hf : ∃ a vs', x = .ref a ∧ H a = some (.lst vs') ∧ RpAll T.K S vs' zs ∧ fp i = [a] := by
        generalize fp i = fi at rc
        cases rc with
        | lst q r => exact ⟨_, _, rfl, q, r, rfl⟩
      obtain ⟨a, vs', rfl, hH, rr, hfi⟩ := hf
      -- the slot is forgotten, the object frozen, the slot stored again
      have E1 := hE.drop i
      obtain ⟨s2, E2⟩ := E1.freeze (a := a) (u := .lst vs') (hE.ow i a (by rw [hfi]; simp)) hH fun j hj => by
        by_cases hji : j = i
        · simp [hji] at hj
        · simp only [hji, if_false] at hj
          exact hji (hE.dj j i a hj (by rw [hfi]; simp))
      have E3 := E2.put (i := i) (x := .ref a) e2 (c := .val (.list zs)) (fx := []) (.val (.lst upd_same (rr.mono s2.ss))) (fun _ z => by simp at z) fun _ z => by simp at z
      have he : (env.set i none).set i (some (Cell.val (.list zs))) = env.set i (some (.val (.list zs))) := by rw [List.set_set]
      rw [he] at E3
      obtain ⟨S', O', s3, st3, k⟩ := frz_of ⟨_, E3⟩ (os.mono s2.ss) h
      refine ⟨S', O', s2.trans s3, st3, fun ds e => ?_⟩
      simp only [resL, res, ez] at e
      obtain ⟨ds', h2, rfl⟩ := Option.map_eq_some_iff.mp e
      exact .cons (Rp.mono s3.ss (.lst upd_same (rr.mono s2.ss))) (k ds' (by rw [resL_set ez]; exact h2))
    · rename_i d ed
      obtain ⟨S', O', s1, st1, k⟩ := frz_of ⟨fp, hE⟩ os h
      obtain ⟨v', e1, rc⟩ := hE.at_ i _ ed
      have e2 : σ[i]? = some (some x) := o
      rw [e2] at e1
      cases e1
      refine ⟨S', O', s1, st1, fun ds e => ?_⟩
      simp only [resL, res, ed] at e
      obtain ⟨ds', h2, rfl⟩ := Option.map_eq_some_iff.mp e
      generalize fp i = fi at rc
      cases rc with
      | val q => exact .cons (q.mono s1.ss) (k ds' h2)
    · cases h
end
end Fin
/-! Fin 6: displays, subscripts, built-in functions. -/
namespace Fin
open PySem PySem.Spec PyProof.Rows L2
section
variable {X : Cx} {T : Tbl} {W : WX} {S H : Hp} {O : Addr → Prop} {σ : L2.St} {env : Env} {Q : VK}

theorem small_line {n : Nat} (h : n ≤ 1000) : n ≤ sizeLine := Nat.le_trans h (by decide)
theorem pe_etup {es : List Expr} {eas : Es} {k : Nat} {pos : Pos} (h : PA X es (tA W T eas)) : PE X (.Tuple es k pos) (tE W T (.tup eas)) := by
  refine (pe_tup h).wk fun σ H Q h => ?_
  obtain ⟨S, O, env, r, st, hr, post⟩ := h
  simp only [ev] at hr
  cases q : evs T.F eas env with
  | none => rw [q] at hr; cases hr
  | some r1 =>
    rw [q] at hr
    refine ⟨S, O, env, r1, st, q, ?_⟩
    cases r1 with
    | exc c e1 => cases hr; exact post
    | ok vs e1 =>
      intro S1 O1 H1 xs s1 st1 ov
      simp only at hr
      split at hr
      · rename_i e2 hf
        split at hr
        · rename_i ds hd
          split at hr
          · rename_i hl
            cases hr
            obtain ⟨S2, O2, s2, st2, k⟩ := frz_of st1 ov hf
            have rr := k ds hd
            exact ⟨small_line (by rw [rr.length]; exact hl), fin_tup st2 (post.step (s1.trans s2)) rr⟩
          · cases hr
        · cases hr
      · cases hr
theorem pe_elst {es : List Expr} {eas : Es} {pos : Pos} (h : PA X es (tA W T eas)) : PE X (.List es pos) (tE W T (.lst eas)) := by
  refine (pe_lst h).wk fun σ H Q h => ?_
  obtain ⟨S, O, env, r, st, hr, post⟩ := h
  simp only [ev] at hr
  cases q : evs T.F eas env with
  | none => rw [q] at hr; cases hr
  | some r1 =>
    rw [q] at hr
    refine ⟨S, O, env, r1, st, q, ?_⟩
    cases r1 with
    | exc c e1 => cases hr; exact post
    | ok vs e1 =>
      intro S1 O1 H1 xs s1 st1 ov
      simp only at hr
      split at hr
      · rename_i e2 hf
        split at hr
        · rename_i ds hd
          split at hr
          · rename_i hl
            cases hr
            obtain ⟨S2, O2, s2, st2, k⟩ := frz_of st1 ov hf
            have rr := k ds hd
            exact ⟨small_line (by rw [rr.length]; exact hl), fin_lst st2 (post.step (s1.trans s2)) rr⟩
          · cases hr
        · cases hr
      · cases hr
theorem pe_edic0 {pos : Pos} : PE X (.Dict [] [] pos) (tE W T .dic0) := by
  refine pe_dnewK.wk fun σ H Q h => ?_
  obtain ⟨S, O, env, r, st, hr, post⟩ := h
  simp only [ev] at hr
  cases hr
  exact fin_dic st post

/-! ### subscripts -/
theorem atI_rp {vs : List V} {ds : List D} (r : RpAll T.K S vs ds) {i : Int} {d : D} (h : atI ds i = some d) : ∃ v, atI vs i = some v ∧ Rp T.K S v d := by
  unfold atI at h ⊢
  rw [r.length]
  cases q : ixN ds.length i with
  | none => rw [q] at h; cases h
  | some j =>
    rw [q] at h
    exact r.get h
theorem ix_red {K : PySem.W.Frag} {vx vy : V} {dx dy d : D} (hK : T.K = K) (st : St0 T S O H σ env) (hx : Vw T.K S H vx dx) (hy : Vw T.K S H vy dy) (nd : ∀ kvs, dx = .dict kvs → flOf kvs ≠ none) (h : ixD dx dy = some d) (f : Fin1 T S O H σ env (.d d) Q) : rIx K vx vy H Q := by
  subst hK
  have sub := st.sub
  unfold ixD at h
  split at h
  · obtain ⟨a, vs, rfl, e, r⟩ := hx.list sub
    cases hy.int
    obtain ⟨v, h1, h2⟩ := atI_rp r h
    exact .inl ⟨a, vs, _, v, rfl, rfl, SqL.of e, h1, fin_d st f h2⟩
  · obtain ⟨a, vs, rfl, _, e, r⟩ := hx.tup sub
    cases hy.int
    obtain ⟨v, h1, h2⟩ := atI_rp r h
    exact .inr (.inl ⟨a, vs, _, v, rfl, rfl, e, h1, fin_d st f h2⟩)
  · cases hx.str
    cases hy.int
    split at h
    · rename_i q
      obtain ⟨c, h1, rfl⟩ := Option.map_eq_some_iff.mp h
      exact .inr (.inr ⟨_, _, c, rfl, rfl, by rw [line_eq]; exact q, h1, fin_d st f (.str _)⟩)
    · cases h
  · split at h
    · rename_i ds hfl
      split at h
      · obtain ⟨a, vs, rfl, e, r⟩ := hx.fl sub hfl
        cases hy.int
        obtain ⟨v, h1, h2⟩ := atI_rp r h
        exact .inl ⟨a, vs, _, v, rfl, rfl, e, h1, fin_d st f h2⟩
      · cases h
    · rename_i n
      exact absurd n (nd _ rfl)
  · cases h
theorem pe_eix {a b : Expr} {ea eb : E} {pos : Pos} (hK : T.K = X.K) (hu : X.A.units + 1 < cLine) (ha : PE X a (tE W T ea)) (hb : PE X b (tE W T eb)) (hp : plainE b = true) : PE X (.Subscript a b pos) (tE W T (.ix ea eb)) := by
  refine ((pe_ix ix_seq (pe_o ha) (pe_o hb) (ix_of hp)).or (pe_dget hu (pe_o ha) (pe_o hb) (ix_of hp))).wk fun σ H Q h => ?_
  obtain ⟨S, O, env, r, st, hr, post⟩ := h
  simp only [ev] at hr
  by_cases dct : ∃ x e1 y e2 kvs, Res.o (ev T.F ea env) = some (.ok x e1) ∧ Res.o (ev T.F eb e1) = some (.ok y e2) ∧ res e2 x = some (.dict kvs) ∧ flOf kvs = none
  · obtain ⟨x, e1, y, e2, kvs, q1, q2, q3, q4⟩ := dct
    refine .inr (two' st hr post fun x' e1' y' e2' S2 O2 H2 vx vy p1 p2 s2 st2 ox oy hk post2 => ?_)
    rw [q1] at p1
    cases p1
    rw [q2] at p2
    cases p2
    obtain ⟨dx, h1, hk⟩ := ofO_some hk
    obtain ⟨dy, h2, hk⟩ := ofO_some hk
    obtain ⟨v, h3, hk⟩ := ofO_some hk
    cases hk
    rw [q3] at h1
    cases h1
    unfold ixD at h3
    simp only [q4] at h3
    split at h3
    · rename_i k ek
      obtain ⟨a, o, rfl, g, _, gg⟩ := dict_get (vw_of st2 oy h2) (vw_of st2 ox q3) q4 ek
      obtain ⟨vv, rfl, rp⟩ := gg v h3
      exact ⟨a, vv, rfl, g, fin_d st2 post2 rp⟩
    · cases h3
  · refine .inl (two' st hr post fun x' e1' y' e2' S2 O2 H2 vx vy p1 p2 s2 st2 ox oy hk post2 => ?_)
    obtain ⟨dx, h1, hk⟩ := ofO_some hk
    obtain ⟨dy, h2, hk⟩ := ofO_some hk
    obtain ⟨v, h3, hk⟩ := ofO_some hk
    cases hk
    exact ix_red hK st2 (vw_of st2 ox h1) (vw_of st2 oy h2) (fun kvs e n => dct ⟨x', e1', y', e2', kvs, p1, p2, by rw [h1, e], n⟩) h3 post2

/-! ### slices -/
def tX (W : WX) (T : Tbl) (o : Ox) : TO := fun σ H Q => ∃ S O env l env', St0 T S O H σ env ∧ evx T.F o env = some (l, env') ∧ ∀ S' O' H', Step S O H S' O' H' → St0 T S' O' H' σ env' → Q l H'
theorem po_enon : PO X none (tX W T .non) := by
  refine po_none.wk fun σ H Q h => ?_
  obtain ⟨S, O, env, l, env', st, hr, post⟩ := h
  simp only [evx] at hr
  cases hr
  exact post S O H .refl st
theorem po_esome {e : Expr} {ea : E} (h : PE X e (tE W T ea)) : PO X (some e) (tX W T (.some ea)) := by
  refine (po_some (pe_o h)).wk fun σ H Q h => ?_
  obtain ⟨S, O, env, l, env', st, hr, post⟩ := h
  simp only [evx] at hr
  split at hr
  · rename_i i e1 q
    cases hr
    refine ⟨S, O, env, _, st, q, fun S1 O1 H1 x s1 ⟨fp, hE, hv⟩ => ?_⟩
    cases (show Rp T.K S1 x (.int i) from hv)
    exact ⟨i, rfl, post S1 O1 H1 s1 ⟨fp, hE⟩⟩
  · cases hr
theorem RpAll.cut {vs : List V} {ds : List D} (r : RpAll T.K S vs ds) (lo hi : Option Int) : RpAll T.K S (cutV vs lo hi) (cutD ds lo hi) := by
  unfold cutV cutD
  rw [r.length]
  exact (r.drop _).take _
theorem sl_red {K : PySem.W.Frag} {vx : V} {dx : D} {v : Val} {lo hi : Option Int} (st : St0 T S O H σ env) (hx : Vw T.K S H vx dx) (h : slD dx lo hi = some v) (f : Fin1 T S O H σ env v Q) : rSlL K vx lo hi H Q ∨ rSlS vx lo hi H Q := by
  unfold slD at h
  split at h
  · cases h
    obtain ⟨a, vs, rfl, e, r⟩ := hx.list st.sub
    exact .inl ⟨a, vs, rfl, SqL.of e, fin_lst st f (r.cut lo hi)⟩
  · split at h
    · rename_i q
      cases h
      cases hx.str
      exact .inr ⟨_, rfl, by rw [line_eq]; exact q, fin_d st f (.str _)⟩
    · cases h
  · cases h
theorem pe_esl {a : Expr} {lo hi : Option Expr} {p2 pos : Pos} {ea : E} {la ha : Ox} (h : PE X a (tE W T ea)) (hl : PO X lo (tX W T la)) (hh : PO X hi (tX W T ha)) : PE X (.Subscript a (.Slice lo hi none p2) pos) (tE W T (.sl ea la ha)) := by
  refine (pe_slice (sl_list.or sl_str) (pe_o h) hl hh).wk fun σ H Q h => ?_
  obtain ⟨S, O, env, r, st, hr, post⟩ := h
  simp only [ev] at hr
  refine one st hr post fun x e1 S1 O1 H1 vx s1 st1 ox hk post1 => ?_
  split at hk
  · rename_i l e2 q1
    refine ⟨S1, O1, e1, l, e2, st1, q1, fun S2 O2 H2 s2 st2 => ?_⟩
    split at hk
    · rename_i hv e3 q2
      refine ⟨S2, O2, e2, hv, e3, st2, q2, fun S3 O3 H3 s3 st3 => ?_⟩
      obtain ⟨dx, h1, hk⟩ := ofO_some hk
      obtain ⟨v, h3, hk⟩ := ofO_some hk
      cases hk
      exact sl_red st3 (vw_of st3 (ox.mono (s2.trans s3).ss) h1) h3 (post1.step (s2.trans s3))
    · cases hk
  · cases hk

/-! ### built-in functions -/
theorem bi_wk {f : Bi} {eas : Es} {r : List V → Hp → VK → Prop} (red : ∀ {S : Hp} {O : Addr → Prop} {H : Hp} {env : Env} {xs : List V} {ds : List D} {v : Val}, St0 T S O H σ env → VwL T.K S H xs ds → biD f ds = some v → Fin1 T S O H σ env v Q → r xs H Q)
    (h : tE W T (.bi f eas) σ H Q) : tCB r (tA W T eas) σ H Q := by
  obtain ⟨S, O, env, q, st, hr, post⟩ := h
  simp only [ev] at hr
  cases e : evs T.F eas env with
  | none => rw [e] at hr; cases hr
  | some r1 =>
    rw [e] at hr
    refine ⟨S, O, env, r1, st, e, ?_⟩
    cases r1 with
    | exc c e1 => cases hr; exact post
    | ok vs e1 =>
      intro S1 O1 H1 xs s1 st1 ov
      obtain ⟨ds, h1, hr⟩ := ofO_some hr
      obtain ⟨v, h2, hr⟩ := ofO_some hr
      cases hr
      exact red st1 (vwl_of st1 ov h1) h2 (post.step s1)
theorem VwL.one {xs : List V} {d : D} (h : VwL T.K S H xs [d]) : ∃ x, xs = [x] ∧ Vw T.K S H x d := by
  cases h with
  | cons a b => cases b; exact ⟨_, rfl, a⟩
theorem VwL.two {xs : List V} {d e : D} (h : VwL T.K S H xs [d, e]) : ∃ x y, xs = [x, y] ∧ Vw T.K S H x d ∧ Vw T.K S H y e := by
  cases h with
  | cons a b => cases b with | cons b c => cases c; exact ⟨_, _, rfl, a, b⟩
theorem KvR.length {vs : List (Key × V)} {ys : List (Key × D)} (r : KvR T.K S vs ys) : vs.length = ys.length := Paired.length r
variable {e : Expr} {es : List Expr} {eas : Es} {p pos : Pos}
theorem pe_elen (hK : T.K = X.K) (hg : Gl X "len") (hm : X.mg "len" = none) (ha : PA X (e :: es) (tA W T eas)) (hp : plainEs (e :: es) = true) : PE X (.Call (.Name "len" p) (e :: es) [] pos) (tE W T (.bi .len eas)) := by
  have h2 : plainE e = true ∧ plainEs es = true := by simpa [plainEs] using hp
  refine (pe_callB (call_len.or call_lenD) hg hm PySem.boot_len ha (he := star_of h2.1 es _) (hpl := back_of h2.2 _ _)).wk fun σ H Q h => bi_wk (fun {S O H env xs ds v} st vl hb f => ?_) h
  replace hb : biLen ds = some v := hb
  unfold biLen at hb
  split at hb
  · cases hb
    obtain ⟨x, rfl, hx⟩ := vl.one
    obtain ⟨a, vs, rfl, e, r⟩ := hx.list st.sub
    exact .inl ⟨_, vs.length, rfl, .inl ⟨vs, SqL.of e, rfl⟩, by rw [r.length]; exact fin_d st f (.int _)⟩
  · cases hb
    obtain ⟨x, rfl, hx⟩ := vl.one
    obtain ⟨a, vs, rfl, _, e, r⟩ := hx.tup st.sub
    exact .inl ⟨_, vs.length, rfl, .inr ⟨vs, hK ▸ e, rfl⟩, by rw [r.length]; exact fin_d st f (.int _)⟩
  · split at hb
    · rename_i q
      cases hb
      obtain ⟨x, rfl, hx⟩ := vl.one
      cases hx.str
      exact .inl ⟨_, _, rfl, ⟨by rw [line_eq]; exact q, rfl⟩, fin_d st f (.int _)⟩
    · cases hb
  · obtain ⟨x, rfl, hx⟩ := vl.one
    split at hb
    · rename_i hfl
      cases hb
      obtain ⟨a, vs, rfl, e, r⟩ := hx.fl st.sub hfl
      exact .inl ⟨_, vs.length, rfl, .inl ⟨vs, hK ▸ e, rfl⟩, by rw [r.length]; exact fin_d st f (.int _)⟩
    · rename_i n
      cases hb
      obtain ⟨a, vs, ys, rfl, e, r, rfl⟩ := hx.dict n
      exact .inr ⟨a, vs, rfl, e, by rw [r.length]; rw [List.length_map] at f; exact fin_d st f (.int _)⟩
  · cases hb
theorem pe_eabs (hg : Gl X "abs") (hm : X.mg "abs" = none) (ha : PA X (e :: es) (tA W T eas)) (hp : plainEs (e :: es) = true) : PE X (.Call (.Name "abs" p) (e :: es) [] pos) (tE W T (.bi .abs eas)) := by
  have h2 : plainE e = true ∧ plainEs es = true := by simpa [plainEs] using hp
  refine (pe_callB call_abs hg hm (by decide +kernel) ha (he := star_of h2.1 es _) (hpl := back_of h2.2 _ _)).wk fun σ H Q h => bi_wk (fun {S O H env xs ds v} st vl hb f => ?_) h
  replace hb : biAbs ds = some v := hb
  unfold biAbs at hb
  split at hb
  · cases hb
    obtain ⟨x, rfl, hx⟩ := vl.one
    cases hx.int
    exact ⟨_, rfl, fin_d st f (.int _)⟩
  · cases hb
theorem intsD_some : ∀ {ds : List D} {ns : List Int}, intsD ds = some ns → ds = ns.map PyData.int
  | [], ns, h => by simp [intsD] at h; subst h; rfl
  | d :: ds, ns, h => by
    cases d <;> simp [intsD] at h
    obtain ⟨ms, h1, rfl⟩ := h
    rw [List.map_cons, ← intsD_some h1]
theorem foldl_max_mem : ∀ (ns : List Int) (n : Int), ns.foldl max n ∈ n :: ns ∧ ∀ y ∈ n :: ns, y ≤ ns.foldl max n
  | [], n => ⟨by simp, fun y hy => Int.le_of_eq (by simpa using hy)⟩
  | m :: ns, n => by
    obtain ⟨h1, h2⟩ := foldl_max_mem ns (max n m)
    rw [List.foldl_cons]
    refine ⟨?_, fun y hy => ?_⟩
    · rcases List.mem_cons.mp h1 with z | z
      · rw [z]
        rcases Int.le_total n m with q | q
        · rw [Int.max_eq_right q]; simp
        · rw [Int.max_eq_left q]; simp
      · simp [z]
    · have k := h2 (max n m) (by simp)
      have a := Int.le_max_left n m
      have b := Int.le_max_right n m
      simp only [List.mem_cons] at hy
      rcases hy with z | z | z
      · omega
      · omega
      · exact h2 y (by simp [z])
theorem foldl_min_mem : ∀ (ns : List Int) (n : Int), ns.foldl min n ∈ n :: ns ∧ ∀ y ∈ n :: ns, ns.foldl min n ≤ y
  | [], n => ⟨by simp, fun y hy => Int.le_of_eq (Eq.symm (by simpa using hy))⟩
  | m :: ns, n => by
    obtain ⟨h1, h2⟩ := foldl_min_mem ns (min n m)
    rw [List.foldl_cons]
    refine ⟨?_, fun y hy => ?_⟩
    · rcases List.mem_cons.mp h1 with z | z
      · rw [z]
        rcases Int.le_total n m with q | q
        · rw [Int.min_eq_left q]; simp
        · rw [Int.min_eq_right q]; simp
      · simp [z]
    · have k := h2 (min n m) (by simp)
      have a := Int.min_le_left n m
      have b := Int.min_le_right n m
      simp only [List.mem_cons] at hy
      rcases hy with z | z | z
      · omega
      · omega
      · exact h2 y (by simp [z])
theorem pe_emax (hc : X.calm = true) (hg : Gl X "max") (hm : X.mg "max" = none) (ha : PA X (e :: es) (tA W T eas)) (hp : plainEs (e :: es) = true) : PE X (.Call (.Name "max" p) (e :: es) [] pos) (tE W T (.bi .max eas)) := by
  have h2 : plainE e = true ∧ plainEs es = true := by simpa [plainEs] using hp
  refine (pe_callB ((call_max2 hc).or (cr_max hc)) hg hm (by decide +kernel) ha (he := star_of h2.1 es _) (hpl := back_of h2.2 _ _)).wk fun σ H Q h => bi_wk (fun {S O H env xs ds v} st vl hb f => ?_) h
  replace hb : biMax ds = some v := hb
  unfold biMax at hb
  split at hb
  · cases hb
    obtain ⟨x, y, rfl, hx, hy⟩ := vl.two
    cases hx.int
    cases hy.int
    exact .inl ⟨_, _, rfl, fin_d st f (.int _)⟩
  · split at hb
    · rename_i n ns q
      cases hb
      obtain ⟨x, rfl, hx⟩ := vl.one
      obtain ⟨a, vs, rfl, e, r⟩ := hx.list st.sub
      rw [intsD_some q] at r
      have r2 := r.ints
      subst r2
      obtain ⟨g1, g2⟩ := foldl_max_mem ns n
      refine .inr ⟨a, n :: ns, rfl, SqL.of e, by simp, fun m h3 h4 => ?_⟩
      have e1 := g2 m h3
      have e2 := h4 _ g1
      have e3 : m = ns.foldl max n := by omega
      rw [e3]
      exact fin_d st f (.int _)
    · cases hb
  · cases hb
theorem pe_emin (hc : X.calm = true) (hg : Gl X "min") (hm : X.mg "min" = none) (ha : PA X (e :: es) (tA W T eas)) (hp : plainEs (e :: es) = true) : PE X (.Call (.Name "min" p) (e :: es) [] pos) (tE W T (.bi .min eas)) := by
  have h2 : plainE e = true ∧ plainEs es = true := by simpa [plainEs] using hp
  refine (pe_callB ((call_min2 hc).or (cr_min hc)) hg hm (by decide +kernel) ha (he := star_of h2.1 es _) (hpl := back_of h2.2 _ _)).wk fun σ H Q h => bi_wk (fun {S O H env xs ds v} st vl hb f => ?_) h
  replace hb : biMin ds = some v := hb
  unfold biMin at hb
  split at hb
  · cases hb
    obtain ⟨x, y, rfl, hx, hy⟩ := vl.two
    cases hx.int
    cases hy.int
    exact .inl ⟨_, _, rfl, fin_d st f (.int _)⟩
  · split at hb
    · rename_i n ns q
      cases hb
      obtain ⟨x, rfl, hx⟩ := vl.one
      obtain ⟨a, vs, rfl, e, r⟩ := hx.list st.sub
      rw [intsD_some q] at r
      have r2 := r.ints
      subst r2
      obtain ⟨g1, g2⟩ := foldl_min_mem ns n
      refine .inr ⟨a, n :: ns, rfl, SqL.of e, by simp, fun m h3 h4 => ?_⟩
      have e1 := g2 m h3
      have e2 := h4 _ g1
      have e3 : m = ns.foldl min n := by omega
      rw [e3]
      exact fin_d st f (.int _)
    · cases hb
  · cases hb
theorem pe_eint (hg : Gl X "int") (hm : X.mg "int" = none) (ha : PA X (e :: es) (tA W T eas)) (hp : plainEs (e :: es) = true) : PE X (.Call (.Name "int" p) (e :: es) [] pos) (tE W T (.bi .int eas)) := by
  have h2 : plainE e = true ∧ plainEs es = true := by simpa [plainEs] using hp
  refine (pe_callTy call_int1 hg hm (by decide +kernel) ha (he := star_of h2.1 es _) (hpl := back_of h2.2 _ _)).wk fun σ H Q h => bi_wk (fun {S O H env xs ds v} st vl hb f => ?_) h
  replace hb : biInt ds = some v := hb
  unfold biInt at hb
  split at hb
  · cases hb
    obtain ⟨x, rfl, hx⟩ := vl.one
    cases hx.int
    exact .inl ⟨_, rfl, fin_d st f (.int _)⟩
  · cases hb
    obtain ⟨x, rfl, hx⟩ := vl.one
    cases hx.bl
    exact .inr ⟨_, rfl, fin_d st f (.int _)⟩
  · cases hb
theorem pe_elist (hK : T.K = X.K) (hg : Gl X "list") (hm : X.mg "list" = none) (ha : PA X (e :: es) (tA W T eas)) (hp : plainEs (e :: es) = true) : PE X (.Call (.Name "list" p) (e :: es) [] pos) (tE W T (.bi .list eas)) := by
  have h2 : plainE e = true ∧ plainEs es = true := by simpa [plainEs] using hp
  refine (pe_callTy call_list_of hg hm (by decide +kernel) ha (he := star_of h2.1 es _) (hpl := back_of h2.2 _ _)).wk fun σ H Q h => bi_wk (fun {S O H env xs ds v} st vl hb f => ?_) h
  replace hb : biList ds = some v := hb
  unfold biList at hb
  split at hb
  · cases hb
    obtain ⟨x, rfl, hx⟩ := vl.one
    obtain ⟨a, vs, rfl, e, r⟩ := hx.list st.sub
    exact ⟨a, vs, rfl, .inl (SqL.of e), fin_lst st f r⟩
  · cases hb
    obtain ⟨x, rfl, hx⟩ := vl.one
    obtain ⟨a, vs, rfl, _, e, r⟩ := hx.tup st.sub
    exact ⟨a, vs, rfl, .inr (hK ▸ e), fin_lst st f r⟩
  · cases hb
theorem pe_etuple (hK : T.K = X.K) (hg : Gl X "tuple") (hm : X.mg "tuple" = none) (ha : PA X (e :: es) (tA W T eas)) (hp : plainEs (e :: es) = true) : PE X (.Call (.Name "tuple" p) (e :: es) [] pos) (tE W T (.bi .tuple eas)) := by
  have h2 : plainE e = true ∧ plainEs es = true := by simpa [plainEs] using hp
  refine (pe_callTy call_tuple_of hg hm (by decide +kernel) ha (he := star_of h2.1 es _) (hpl := back_of h2.2 _ _)).wk fun σ H Q h => bi_wk (fun {S O H env xs ds v} st vl hb f => ?_) h
  replace hb : biTuple ds = some v := hb
  unfold biTuple at hb
  split at hb
  · cases hb
    obtain ⟨x, rfl, hx⟩ := vl.one
    obtain ⟨a, vs, rfl, e, r⟩ := hx.list st.sub
    exact ⟨a, vs, rfl, .inl ⟨SqL.of e, fin_tup st f r⟩⟩
  · cases hb
    obtain ⟨x, rfl, hx⟩ := vl.one
    obtain ⟨a, vs, rfl, eS, e, r⟩ := hx.tup st.sub
    exact ⟨a, vs, rfl, .inr ⟨hK ▸ e, fin_d st f (.tup eS r)⟩⟩
  · cases hb
end
end Fin
/-! Fin 7: calls of the text's own functions, isinstance, methods that change a slot's own list. -/
namespace Fin
open PySem PySem.Spec PyProof.Rows L2

/-! ### what a function of the text promises -/
def Out0 (O : Addr → Prop) (S H : Hp) : Prop := ∀ a, O a → S a = none ∧ H a ≠ none
def spPure (T : Tbl) (n : Nat) (F : List D → Option PRes) : Sp := fun vs H Q E => vs.length = n ∧ ∃ S ds r, Sub S H ∧ RpAll T.K S vs ds ∧ F ds = some r ∧ match r with
  | .ok c => ∀ S' O' H' x fx, Step S (fun _ => False) H S' O' H' → Sub S' H' → Out0 O' S' H' → CellR T.K T.ex.r S' H' x c fx → (∀ a ∈ fx, O' a) → Q x H'
  | .exc c => ∀ S' O' H', Step S (fun _ => False) H S' O' H' → E (T.cls c) none H'
def spMut (T : Tbl) (n : Nat) (F : Cell → List D → Option MRes) : Sp := fun vs H Q E => vs.length = n ∧ ∃ v0 vs' S c fx ds r, vs = v0 :: vs' ∧ Sub S H ∧ CellR T.K T.ex.r S H v0 c fx ∧ (∀ a ∈ fx, S a = none ∧ H a ≠ none) ∧ RpAll T.K S vs' ds ∧ F c ds = some r ∧ match r with
  | .ok rc c' => ∀ S' O' H' x fr fx', Step S (fun a => a ∈ fx) H S' O' H' → Sub S' H' → Out0 O' S' H' → CellR T.K T.ex.r S' H' v0 c' fx' → CellR T.K T.ex.r S' H' x rc fr → (∀ a ∈ fx', O' a) → (∀ a ∈ fr, O' a ∧ a ∉ fx') → Q x H'
  | .exc e c' => ∀ S' O' H' fx', Step S (fun a => a ∈ fx) H S' O' H' → Sub S' H' → Out0 O' S' H' → CellR T.K T.ex.r S' H' v0 c' fx' → (∀ a ∈ fx', O' a) → E (T.cls e) none H'
def spScr (T : Tbl) (n : Nat) (F : List Int → Option Cell) : Sp := fun vs H Q _ => vs.length = n ∧ ∃ S a ns c, vs = [.ref a] ∧ Sub S H ∧ SqL T.K S a (ns.map V.int) ∧ F ns = some c ∧
  ∀ S' O' H' x fx, Step S (fun _ => False) H S' O' H' → Sub S' H' → Out0 O' S' H' → CellR T.K T.ex.r S' H' x c fx → (∀ a ∈ fx, O' a) → Q x H'
def spFn (T : Tbl) (n : Nat) : Fn → Sp
  | .pure F => spPure T n F
  | .mt F => spMut T n F
  | .scr F => spScr T n F
/-- the functions that the table names stand in the module -/
structure FnAt (X : Cx) (T : Tbl) (k : Nat) (f : Str) (fn : Fn) (n : Nat) : Prop where
  ex : ∃ a fd ps, X.mg f = some (.ref a) ∧ PySem.W.keepIn X.K (.ref a) = true ∧ Binds X.K fd ps [] ∧ FnOk X.prog X.w X.K X.mg X.base (L2.CX X.prog X.w) k a fd ps (spFn T n fn)

section
variable {X : Cx} {T : Tbl} {W : WX} {S H : Hp} {O : Addr → Prop} {σ : L2.St} {env : Env} {Q : VK}
theorem hasSl_frz : ∀ {vs : List Val}, hasSl vs = false → frzS env vs = some env
  | [], _ => rfl
  | .d _ :: vs, h => by simp only [frzS]; exact hasSl_frz (vs := vs) h
  | .fr _ :: vs, h => by simp only [frzS]; exact hasSl_frz (vs := vs) h
  | .sl _ :: _, h => by simp [hasSl] at h
theorem rp_scal' {S S' : Hp} {x : V} {d : D} (r : Rp T.K S x d) (h : scalD d = true) : Rp T.K S' x d := by
  cases r <;> first | (cases h; done) | constructor
/-- behind a call of a function that changes nothing -/
theorem Step.call {S' H' : Hp} {O' : Addr → Prop} (s : Step S (fun _ => False) H S' O' H') : Step S O H S' (fun a => O a ∨ O' a) H' :=
  ⟨s.ss, fun a o e _ => s.fr a o e fun z => z, fun a h _ z => s.gs a h (fun z => z) z, fun a h => h.elim .inl fun z => (s.go a z).elim False.elim .inr, s.al⟩
theorem EnvR.call {K : PySem.W.Frag} {ex : Xc} {fp : Nat → List Addr} (hE : EnvR K ex S O H σ env fp) {S' H' : Hp} {O' : Addr → Prop} (s : Step S (fun _ => False) H S' O' H') (sub : Sub S' H') (o : Out0 O' S' H') :
    EnvR K ex S' (fun a => O a ∨ O' a) H' σ env fp :=
  hE.other s.ss sub (fun i a u ha e => s.fr a u e fun z => z) (fun i a z => .inl (hE.ow i a z)) fun a z => by
    rcases z with z | z
    · obtain ⟨z1, z2⟩ := hE.out a z
      exact ⟨s.gs a z2 (fun z => z) z1, s.al a z2⟩
    · exact o a z
/-- .. seen by those who keep what they had -/
theorem Step.keep {S1 S' H' : Hp} {O' : Addr → Prop} (s : Step S1 (fun _ => False) H S' O' H') : Step S O H S O H' :=
  ⟨Sub.refl S, fun a u e _ => s.fr a u e fun z => z, fun _ _ _ z => z, fun a z => .inl z, s.al⟩
theorem EnvR.keep {K : PySem.W.Frag} {ex : Xc} {fp : Nat → List Addr} (hE : EnvR K ex S O H σ env fp) {S1 S' H' : Hp} {O' : Addr → Prop} (s : Step S1 (fun _ => False) H S' O' H') : EnvR K ex S O H' σ env fp :=
  hE.other (Sub.refl S) (fun a u e => s.fr a u (hE.sub a u e) fun z => z) (fun i a u ha e => s.fr a u e fun z => z) hE.ow fun a z => ⟨(hE.out a z).1, s.al a (hE.out a z).2⟩
theorem asVal_stv {fp : Nat → List Addr} (hE : EnvR T.K T.ex S O H σ env fp) {x : V} {c : Cell} {fx : List Addr} (hc : CellR T.K T.ex.r S H x c fx) (ow : ∀ a ∈ fx, O a ∧ ∀ i, a ∉ fp i) : StV T S O H σ env x (asVal c) := by
  refine ⟨fp, hE, ?_⟩
  cases c with
  | val d => cases hc with | val r => exact r
  | lst _ => exact ⟨fx, hc, ow⟩
  | dic _ => exact ⟨fx, hc, ow⟩
  | exc _ => exact ⟨fx, hc, ow⟩
  | scr _ => exact ⟨fx, hc, ow⟩
theorem resL_rp : ∀ {vs : List Val} {xs : List V} {ds : List D}, hasSl vs = false → OpVs T.K σ S xs vs → resL env vs = some ds → RpAll T.K S xs ds
  | _, _, _, _, .nil, h => by simp [resL] at h; subst h; exact .nil
  | .d d :: vs, _, ds, hs, .cons o os, h => by
    simp only [resL, res] at h
    obtain ⟨ds', h2, rfl⟩ := Option.map_eq_some_iff.mp h
    exact .cons o (resL_rp (vs := vs) hs os h2)
  | .sl _ :: _, _, _, hs, _, _ => by simp [hasSl] at hs
  | .fr _ :: _, _, _, _, .cons o _, _ => o.elim
theorem call_red {n : Nat} {fn : Fn} {vs : List Val} {xs : List V} {r : Res} (st : St0 T S O H σ env) (ov : OpVs T.K σ S xs vs) (hn : xs.length = n) (h : callF fn vs env = some r) (post : Post T W S O H σ Q r) : spFn T n fn xs H Q (fun cls d H => W cls d σ H) := by
  cases fn with
  | pure F =>
    simp only [callF] at h
    split at h
    · rename_i ds env' hd hf
      obtain ⟨S1, O1, s1, st1, k⟩ := frz_of st ov hf
      have rr := k ds hd
      split at h
      · rename_i c hF
        cases h
        refine ⟨hn, S1, ds, _, st1.sub, rr, hF, fun S' O' H' x fx s' sub' o' hc ow => ?_⟩
        by_cases hs : scalC c = true
        · rw [if_pos hs] at post
          cases c with
          | val d =>
            cases hc with
            | val rp =>
              obtain ⟨fp, hE⟩ := st
              exact post S O H' x s'.keep ⟨fp, hE.keep s', rp_scal' rp hs⟩
          | lst _ => cases hs
          | dic _ => cases hs
          | exc _ => cases hs
          | scr _ => cases hs
        · rw [if_neg hs] at post
          obtain ⟨fp, hE⟩ := st1
          refine post S' _ H' x (s1.trans s'.call) (asVal_stv (hE.call s' sub' o') hc fun a ha => ⟨.inr (ow a ha), fun i hi => ?_⟩)
          have h1 := (s'.go a (ow a ha)).elim False.elim id
          exact (hE.out a (hE.ow i a hi)).2 h1
      · rename_i c hF
        cases h
        refine ⟨hn, S1, ds, _, st1.sub, rr, hF, fun S' O' H' s' => ?_⟩
        obtain ⟨fp, hE⟩ := st
        exact post S O H' s'.keep ⟨fp, hE.keep s'⟩
      · cases h
    · cases h
  | mt F =>
    simp only [callF] at h
    split at h
    · rename_i i vs
      cases ov with
      | @cons x0 xs' _ _ o os =>
        split at h
        · rename_i c ds hc hs hd
          have rr := resL_rp hs os hd
          obtain ⟨fp, hE⟩ := st
          obtain ⟨v', e1, rc⟩ := hE.at_ i c hc
          have e2 : σ[i]? = some (some x0) := o
          rw [e2] at e1
          cases e1
          have behind : ∀ {S' H' : Hp} {O' : Addr → Prop} {c' : Cell} {fx' : List Addr}, Step S (fun a => a ∈ fp i) H S' O' H' → Sub S' H' → Out0 O' S' H' → CellR T.K T.ex.r S' H' x0 c' fx' → (∀ a ∈ fx', O' a) →
              Step S O H S' (fun a => (O a ∧ a ∉ fp i) ∨ O' a) H' ∧ EnvR T.K T.ex S' (fun a => (O a ∧ a ∉ fp i) ∨ O' a) H' σ (env.set i (some c')) (fun j => if j = i then fx' else fp j) := fun {S' H' O' c' fx'} s' sub' o' hc' ow' => by
            have oth : ∀ j, j ≠ i → ∀ a ∈ fp j, a ∉ fp i := fun j hj a ha hb => hj (hE.dj j i a ha hb)
            have new : ∀ a, O' a → a ∉ fp i → H a = none := fun a h1 h2 => (s'.go a h1).elim (fun z => absurd z h2) id
            refine ⟨⟨s'.ss, fun a u e n => s'.fr a u e fun z => n (hE.ow i a z), fun a h1 n z => s'.gs a h1 (fun z => n (hE.ow i a z)) z, fun a z => ?_, s'.al⟩, ?_⟩
            · rcases z with z | z
              · exact .inl z.1
              · exact (s'.go a z).imp (fun z => hE.ow i a z) id
            · -- the other slots, then the slot i
              have E1 : EnvR T.K T.ex S' (fun a => (O a ∧ a ∉ fp i) ∨ O' a) H' σ (env.set i none) (fun j => if j = i then [] else fp j) := by
                have E0 := hE.drop i
                refine E0.other s'.ss sub' (fun j a u ha e => ?_) (fun j a ha => ?_) fun a z => ?_
                · by_cases hj : j = i
                  · simp [hj] at ha
                  · simp only [hj, if_false] at ha
                    exact s'.fr a u e (oth j hj a ha)
                · by_cases hj : j = i
                  · simp [hj] at ha
                  · simp only [hj, if_false] at ha
                    exact .inl ⟨hE.ow j a ha, oth j hj a ha⟩
                · rcases z with z | z
                  · obtain ⟨z1, z2⟩ := hE.out a z.1
                    exact ⟨s'.gs a z2 z.2 z1, s'.al a z2⟩
                  · exact o' a z
              have E2 := E1.put (i := i) e2 hc' (fun a ha => .inr (ow' a ha)) fun a ha j hj hm => by
                simp only [hj, if_false] at hm
                have h1 := new a (ow' a ha) (oth j hj a hm)
                exact (hE.out a (hE.ow j a hm)).2 h1
              rw [List.set_set] at E2
              have hf : (fun j => if j = i then fx' else (fun j => if j = i then [] else fp j) j) = (fun j => if j = i then fx' else fp j) := by
                funext j
                by_cases hj : j = i <;> simp [hj]
              rw [hf] at E2
              exact E2
          split at h
          · cases h
          · split at h
            · rename_i rc' c' hF
              cases h
              refine ⟨hn, x0, xs', S, c, fp i, ds, _, rfl, hE.sub, rc, fun a ha => hE.out a (hE.ow i a ha), rr, hF, fun S' O' H' x fr fx' s' sub' o' hc' hx ow' owr => ?_⟩
              obtain ⟨s2, E2⟩ := behind s' sub' o' hc' ow'
              refine post S' _ H' x s2 (asVal_stv E2 hx fun a ha => ⟨.inr (owr a ha).1, fun j hj => ?_⟩)
              by_cases hji : j = i
              · simp only [hji, if_true] at hj
                exact (owr a ha).2 hj
              · simp only [hji, if_false] at hj
                have h1 := (s'.go a (owr a ha).1).elim (fun z => absurd (hE.dj j i a hj z) hji) id
                exact (hE.out a (hE.ow j a hj)).2 h1
            · rename_i ec c' hF
              cases h
              refine ⟨hn, x0, xs', S, c, fp i, ds, _, rfl, hE.sub, rc, fun a ha => hE.out a (hE.ow i a ha), rr, hF, fun S' O' H' fx' s' sub' o' hc' ow' => ?_⟩
              obtain ⟨s2, E2⟩ := behind s' sub' o' hc' ow'
              exact post S' _ H' s2 ⟨_, E2⟩
            · cases h
        · cases h
    · cases h
  | scr F =>
    simp only [callF] at h
    split at h
    · rename_i i
      cases ov with
      | @cons x0 xs' _ _ o os =>
        cases os
        split at h
        · rename_i ns hi
          split at h
          · rename_i c hF
            cases h
            obtain ⟨fp, hE⟩ := st
            obtain ⟨v', e1, rc⟩ := hE.at_ i _ hi
            have e2 : σ[i]? = some (some x0) := o
            rw [e2] at e1
            cases e1
            generalize hfi : fp i = fi at rc
            cases rc with
            | @scr a _ hq =>
              refine ⟨hn, S, a, ns, c, rfl, hE.sub, hq, hF, fun S' O' H' x fx s' sub' o' hc ow => ?_⟩
              refine post S' _ H' x s'.call (asVal_stv (hE.call s' sub' o') hc fun a ha => ⟨.inr (ow a ha), fun i hi => ?_⟩)
              have h1 := (s'.go a (ow a ha)).elim False.elim id
              exact (hE.out a (hE.ow i a hi)).2 h1
          · cases h
        · cases h
    · cases h
end
end Fin
/-! Fin 8: calls, isinstance, methods on a slot's own list, what loops go over, comprehensions. -/
namespace Fin
open PySem PySem.Spec PyProof.Rows L2
section
variable {X : Cx} {T : Tbl} {W : WX} {S H : Hp} {O : Addr → Prop} {σ : L2.St} {env : Env} {Q : VK}
variable {e : Expr} {es : List Expr} {eas : Es} {p pos : Pos}

theorem call_wk {f : Str} {n : Nat} {fn : Fn} (hf : T.F.fns f = some fn) (hn : ∀ (σ : L2.St) (S : Hp) (env env' : Env) (xs : List V) (vs : List Val), evs T.F eas env = some (.ok vs env') → OpVs T.K σ S xs vs → xs.length = n)
    (h : tE W T (.call f eas) σ H Q) : tCallS (spFn T n fn) (WE W) (tA W T eas) σ H Q := by
  obtain ⟨S, O, env, r, st, hr, post⟩ := h
  simp only [ev, hf] at hr
  cases q : evs T.F eas env with
  | none => rw [q] at hr; cases hr
  | some r1 =>
    rw [q] at hr
    refine ⟨S, O, env, r1, st, q, ?_⟩
    cases r1 with
    | exc c e1 => cases hr; exact post
    | ok vs e1 =>
      intro S1 O1 H1 xs s1 st1 ov
      exact call_red st1 ov (hn _ _ _ _ _ _ q ov) hr (post.step s1)
def Es.len : Es → Nat
  | .nil => 0
  | .cons _ es => es.len + 1
theorem evs_len : ∀ {eas : Es} {env env' : Env} {vs : List Val}, evs T.F eas env = some (.ok vs env') → vs.length = eas.len
  | .nil, env, env', vs, h => by simp only [evs] at h; cases h; rfl
  | .cons ea eas, env, env', vs, h => by
    simp only [evs] at h
    split at h
    · split at h
      · rename_i v e1 _ vs' e2 q
        cases h
        simp only [List.length_cons, Es.len, evs_len (eas := eas) q]
      · cases h
      · cases h
    · cases h
    · cases h
theorem pe_ecall {f : Str} {k : Nat} (hg : Gl X f) (hd : (f == ("__debug__" : Str)) = false) (tk : Takes X W) (hr : Room k X.A) (hF : ∀ fn, T.F.fns f = some fn → FnAt X T k f fn eas.len)
    (ha : PA X (e :: es) (tA W T eas)) (hp : plainEs (e :: es) = true) : PE X (.Call (.Name f p) (e :: es) [] pos) (tE W T (.call f eas)) := by
  have h2 : plainE e = true ∧ plainEs es = true := by simpa [plainEs] using hp
  cases hf : T.F.fns f with
  | none =>
    refine ⟨fun pins s σ H Q I h => ?_⟩
    obtain ⟨S, O, env, r, st, hr, post⟩ := h
    simp [ev, hf] at hr
  | some fn =>
    obtain ⟨a, fd, ps, hm, hk, hb, F⟩ := (hF fn hf).ex
    exact (pe_callS F hr hg hm hk hb (fun σ => passAt tk σ) ha (hdb := hd) (he := star_of h2.1 es _) (hpl := back_of h2.2 _ _)).wk fun σ H Q h => call_wk hf (fun _ _ _ _ _ _ q ov => ov.length.trans (evs_len q)) h

/-! ### isinstance -/
def tyN : D → String
  | .none => "NoneType"
  | .bool _ => "bool"
  | .int _ => "int"
  | .str _ => "str"
  | .list _ => "list"
  | .tuple _ => "tuple"
  | .dict _ => "dict"
theorem ty_of {K : PySem.W.Frag} {x : V} {d : D} (hK : T.K = K) (sub : Sub S H) (h : Vw T.K S H x d) (nd : ∀ kvs, d ≠ .dict kvs) : TyX K H x (.type (tyN d)) := by
  subst hK
  cases h with
  | rp r =>
    cases r with
    | non => exact .base .non
    | bl b => exact .base (.bl b)
    | int i => exact .base (.int i)
    | str s => exact .base (.str s)
    | lst e _ => exact .base (.lst (sub _ _ e))
    | tup e _ =>
      rcases e with (e | ⟨o, e⟩) | ⟨o, its, n, e, c, _⟩
      · exact .base (.tup (sub _ _ e))
      · exact .fTuple (sub _ _ e)
      · exact .kTuple e c
    | fl _ _ => exact absurd rfl (nd _)
  | lst e _ => exact .base (.lst e)
  | dic e _ => exact .base (.dK e)
def Ty.name : Ty → String
  | .int => "int" | .bool => "bool" | .str => "str" | .list => "list" | .tuple => "tuple"
theorem isi_kit {K : PySem.W.Frag} {d : D} {ty : Ty} {b : Bool} (h : isiD d ty = some b) : PySem.W.kitOne K (.type (tyN d)) (.type ty.name) = some b := by
  cases ty <;> cases d <;> simp [isiD] at h <;> subst h <;> rfl
theorem pe_eisi {a : Expr} {ea : E} {x : Str} {ty : Ty} {p2 : Pos} (hK : T.K = X.K) (hx : x = Str.ofString ty.name)
    (hg : Gl X "isinstance") (hm : X.mg "isinstance" = none) (hgt : Gl X x) (hmt : X.mg x = none) (ha : PE X a (tE W T ea)) (hp : plainE a = true) :
    PE X (.Call (.Name "isinstance" p) [a, .Name x p2] [] pos) (tE W T (.isi ea ty)) := by
  have hb : bootBuiltins x = some (.type ty.name) ∧ x ≠ "__name__" ∧ (x == ("__debug__" : Str)) = false := by
    subst hx
    cases ty <;> exact ⟨by decide +kernel, by decide, by decide⟩
  have ht : PE X (.Name x p2) (tC (.ty ty.name)) := pe_bltn hgt hmt hb.1 rfl hb.2.1 hb.2.2
  refine (pe_callB call_isi hg hm (by decide +kernel) (pa_cons (pe_o ha) (pa_cons ht pa_nil) (star_of hp _ _)) (he := star_of hp _ _)).wk fun σ H Q h => ?_
  obtain ⟨S, O, env, r, st, hr, post⟩ := h
  simp only [ev] at hr
  refine one st hr post fun x e1 S1 O1 H1 vx s1 st1 ox hk post1 => ?_
  obtain ⟨dx, h1, hk⟩ := ofO_some hk
  obtain ⟨b, h2, hk⟩ := ofO_some hk
  cases hk
  exact ⟨vx, .ty ty.name, .type (tyN dx), .type ty.name, b, rfl, .ty ty.name, ty_of hK st1.sub (vw_of st1 ox h1) (fun kvs z => by subst z; simp [isiD] at h2), isi_kit h2, fin_d st1 post1 (.bl _)⟩

/-! ### a method that changes a slot's own list -/
theorem mm_wk {K : PySem.W.Frag} {m : Mm} {i : Nat} {r : V → List V → Hp → VK → Prop}
    (red : ∀ {S : Hp} {H : Hp} {a : Addr} {vs ws : List V} {xs ds : List D} {d : D} {xs' : List D}, H a = some (.lst vs) → RpAll T.K S vs xs → RpAll T.K S ws ds → mmD m xs ds = some (d, xs') →
      (∀ x vs', RpAll T.K S vs' xs' → Rp T.K S x d → Q x (upd H a (.lst vs'))) → r (.ref a) ws H Q)
    (h : tE W T (.mm m i eas) σ H Q) : tBM K "list" r (tVar i) (tA W T eas) σ H Q := by
  obtain ⟨S, O, env, q, st, hr, post⟩ := h
  simp only [ev] at hr
  split at hr
  · rename_i hl
    obtain ⟨fp, hE⟩ := st
    have e1 : ∃ xs0, env[i]? = some (some (.lst xs0)) := by
      cases e2 : env[i]? with
      | none => rw [e2] at hl; simp [isLst] at hl
      | some z =>
        rw [e2] at hl
        cases z with
        | none => simp [isLst] at hl
        | some c => cases c <;> simp [isLst] at hl; exact ⟨_, rfl⟩
    obtain ⟨xs0, e1⟩ := e1
    obtain ⟨v, e2, rc⟩ := hE.at_ i _ e1
    have hv : ∃ a vs, v = .ref a ∧ H a = some (.lst vs) := by
      generalize fp i = fi at rc
      cases rc with
      | lst q _ => exact ⟨_, _, rfl, q⟩
    obtain ⟨a, vs0, rfl, hH0⟩ := hv
    refine ⟨.ref a, e2, .inl ⟨rfl, vs0, SqL.of hH0⟩, ?_⟩
    cases q1 : evs T.F eas env with
    | none => rw [q1] at hr; cases hr
    | some r1 =>
      rw [q1] at hr
      refine ⟨S, O, env, r1, ⟨fp, hE⟩, q1, ?_⟩
      cases r1 with
      | exc c e1 => cases hr; exact post
      | ok vs e1 =>
        intro S1 O1 H1 ws s1 st1 ov
        simp only at hr
        split at hr
        · rename_i e2' hf
          split at hr
          · rename_i ds xs hd hc
            split at hr
            · rename_i d c' hm
              cases hr
              obtain ⟨S2, O2, s2, ⟨fp2, E2⟩, k⟩ := frz_of st1 ov hf
              obtain ⟨v, g2, rc⟩ := E2.at_ i _ hc
              rw [e2] at g2
              cases g2
              have hv : ∃ vs, H1 a = some (.lst vs) ∧ RpAll T.K S2 vs xs ∧ fp2 i = [a] := by
                generalize fp2 i = fi at rc
                cases rc with
                | lst q r => exact ⟨_, q, r, rfl⟩
              obtain ⟨vs', hH, rr, hfi⟩ := hv
              refine red (S := S2) hH rr (k ds hd) hm fun x ws' rw' rx => ?_
              obtain ⟨s3, E3⟩ := E2.change (o := .lst ws') (c := .lst c') e2 hfi (.lst upd_same rw')
              exact post S2 O2 _ x ((s1.trans s2).trans s3) ⟨fp2, E3, rx⟩
            · cases hr
          · cases hr
        · cases hr
  · cases hr
theorem evar_raw {i : Nat} {x : Str} {pos : Pos} (hN : X.N[i]? = some x) (hv : Vis X.env.scope x) (hd : (x == ("__debug__" : Str)) = false) (hcd : (x == ("__classdict__" : Str)) = false) : PE X (.Name x pos) (tVar i) := pe_var hN hv hd hcd
theorem pe_eappend {i : Nat} {x : Str} {px pa : Pos} (hN : X.N[i]? = some x) (hv : Vis X.env.scope x) (hd : (x == ("__debug__" : Str)) = false) (hcd : (x == ("__classdict__" : Str)) = false) (ha : PA X [e] (tA W T eas)) (hp : plainE e = true) (hl : (pa.endLine == pos.line) = true) :
    PE X (.Call (.Attribute (.Name x px) "append" pa) [e] [] pos) (tE W T (.mm .append i eas)) := by
  have hq : plainEs [e] = true := by simp [plainEs, hp]
  refine (pe_bm PySem.F.plainAttrs_list PySem.F.slot_list_append PySem.F.type_list_append mt_append (pe_var hN hv hd hcd) ha (hline := hl) (hs := star_of hp _ _) (hfew := by rw [stars_of hq]; rfl)).wk fun σ H Q h => mm_wk (fun {S H a vs ws xs ds d xs'} hH rr rw' hm k => ?_) h
  replace hm : mmAppend xs ds = some (d, xs') := hm
  unfold mmAppend at hm
  split at hm
  · split at hm
    · rename_i q
      cases hm
      cases rw' with
      | cons r1 r2 =>
        cases r2
        exact ⟨a, vs, _, rfl, rfl, hH, by rw [line_eq, rr.length]; exact q, k .non _ (rr.snoc r1) .non⟩
    · cases hm
  · cases hm
theorem RpAll.dropLast : ∀ {S : Hp} {vs : List V} {ds : List D}, RpAll T.K S vs ds → RpAll T.K S vs.dropLast ds.dropLast
  | _, _, _, .nil => .nil
  | _, _, _, .cons h .nil => .nil
  | _, _, _, .cons h (.cons h2 r) => by
    rw [List.dropLast_cons₂, List.dropLast_cons₂]
    exact .cons h (RpAll.dropLast (.cons h2 r))
theorem pe_epopAt {i : Nat} {x : Str} {px pa : Pos} (hN : X.N[i]? = some x) (hv : Vis X.env.scope x) (hd : (x == ("__debug__" : Str)) = false) (hcd : (x == ("__classdict__" : Str)) = false) (ha : PA X [e] (tA W T eas)) (hp : plainE e = true) (hl : (pa.endLine == pos.line) = true) :
    PE X (.Call (.Attribute (.Name x px) "pop" pa) [e] [] pos) (tE W T (.mm .pop i eas)) := by
  have hq : plainEs [e] = true := by simp [plainEs, hp]
  refine (pe_bm PySem.F.plainAttrs_list PySem.F.slot_list_pop PySem.F.type_list_pop (MtR.or mt_pop mt_popAt) (pe_var hN hv hd hcd) ha (hline := hl) (hs := star_of hp _ _) (hfew := by rw [stars_of hq]; rfl)).wk fun σ H Q h => mm_wk (fun {S H a vs ws xs ds d xs'} hH rr rw' hm k => ?_) h
  replace hm : mmPop xs ds = some (d, xs') := hm
  unfold mmPop at hm
  split at hm
  · rename_i i'
    split at hm
    · rename_i q
      split at hm
      · rename_i kk hk
        split at hm
        · rename_i d' hd'
          cases hm
          cases rw' with
          | cons r1 r2 =>
            cases r2
            cases r1
            have q' := of_decide_eq_true q
            obtain ⟨v, h1, h2⟩ := rr.get hd'
            exact .inr ⟨a, vs, i', kk, v, rfl, rfl, hH, q'.1, q'.2, by rw [rr.length]; exact (ixN_seq hk).1, h1, k v _ (rr.eraseIdx kk) h2⟩
        · cases hm
      · cases hm
    · cases hm
  · split at hm
    · rename_i d' hd'
      cases hm
      cases rw'
      obtain ⟨v, h1, h2⟩ := rr.get hd'
      exact .inl ⟨a, vs, v, rfl, rfl, hH, by rw [rr.length]; exact h1, k v _ rr.dropLast h2⟩
    · cases hm
  · cases hm
end
end Fin
/-! Fin 8b: bit texts. -/
section
namespace Fin
open PySem PySem.Spec PySem.Calls PyProof.Rows L2 PySem.W
theorem meets_b (i : Int) (t : Tok) (hL : (binText i).length ≤ sizeLine) : ∀ u, Meets (Builtin.«int.__format__» ⟨[.int i t, .str "b" u], []⟩) (fun _ R s => ∀ t' k, R (.ok (.ret (.str (binText i) t'))) { s with toks := k }) := by
  intro u
  apply KPc.meets_of
  intro _ _ _ _ _ _ hR
  unfold Builtin.«int.__format__»
  refine wpAny_bind (wpAny_of_eq (a := (_, _)) rfl (wpAny_bind (wpAny_of_eq (a := _) rfl ?_)))
  kxf_if
  refine wpAny_bind (wpAny_typeNameOf (T := "str") (typeIs_str _ _ _) (by decide) fun _ => wpAny_bind (wpAny_of_eq (a := some _) rfl ?_))
  kxf_if
  kxf_if
  refine wpAny_bind (wpAny_typeNameOfCut_int ?_)
  repeat kxf_if
  refine KXf.ret_text (T := binText i) rfl ?_ hR
  exact hL
end Fin
end
/-! Fin 8c: bit texts, methods of texts and ints, turned round. -/
namespace Fin
open PySem PySem.Spec PyProof.Rows L2
section
variable {X : Cx} {T : Tbl} {W : WX} {S H : Hp} {O : Addr → Prop} {σ : L2.St} {env : Env} {Q : VK}
def tFb (te : TE) : TE := fun σ H Q => te σ H fun x H1 => ∃ i : Int, x = .int i ∧ (binText i).length ≤ sizeLine ∧ Q (.str (binText i)) H1
theorem pe_fmtB {e : Expr} {te : TE} {j : Nat} {p1 p2 pos : Pos} (he : PE X e te) : PE X (.FormattedValue e (-1) (some (.JoinedStr [.Constant (.str "b") j p1] p2)) pos) (tFb te) := by
  refine ⟨fun pins s σ H Q I h => wpAny_FormattedValue_spec (thn (he.run pins s σ H _ I h) fun v s1 ⟨x, H1, I1, r1, i, ex, hz, q⟩ => ?_)⟩
  subst ex
  obtain ⟨t, rfl⟩ := r1
  refine thn (wpAny_JoinedStr_one (pe_str.run pins s1 σ H1 (fun y H2 => y = .str "b" ∧ H2 = H1) I1 ⟨rfl, rfl⟩)) fun r s2 ⟨y, H2, I2, r2, ey, eH⟩ => ?_
  subst ey eH
  obtain ⟨t2, rfl⟩ := r2
  exact ⟨_, t2, rfl, PySem.W.KXf.field_int rfl (by decide) (by decide) (meets_b i t hz) fun t' k => ⟨.str _, H2, I2.tok _, ⟨t', rfl⟩, q⟩⟩
theorem pe_efb {a : Expr} {ea : E} {j : Nat} {p1 p2 p3 pos : Pos} (h : PE X a (tE W T ea)) : PE X (.JoinedStr [.FormattedValue a (-1) (some (.JoinedStr [.Constant (.str "b") j p1] p2)) p3] pos) (tE W T (.fb ea)) := by
  refine (PE.wk (⟨fun pins s σ H Q I q => wpAny_JoinedStr_one ((pe_fmtB (pe_o h)).run pins s σ H Q I q)⟩ : PE X _ (tFb (tO W T ea))) fun σ H Q h => ?_)
  obtain ⟨S, O, env, r, st, hr, post⟩ := h
  simp only [ev] at hr
  refine one st hr post fun x e1 S1 O1 H1 vx s1 st1 ox hk post1 => ?_
  obtain ⟨dx, h1, hk⟩ := ofO_some hk
  obtain ⟨v, h2, hk⟩ := ofO_some hk
  cases hk
  unfold fbD at h2
  split at h2
  · rename_i i
    cases (vw_of st1 ox h1).int
    split at h2
    · rename_i hz
      cases h2
      exact ⟨i, rfl, by rw [line_eq]; exact hz, fin_d st1 post1 (.str _)⟩
    · cases h2
  · cases h2
/-! ### methods -/
theorem pe_ebits {a : Expr} {ea : E} {ap pos : Pos} (h : PE X a (tE W T ea)) (hb : attributeBase a "bit_length" X.env (eval a X.env) = eval a X.env) (hl : (ap.endLine == pos.line) = true) : PE X (.Call (.Attribute a "bit_length" ap) [] [] pos) (tE W T (.bm .bits ea .nil)) := by
  refine (pe_bits (pe_o h) hb hl).wk fun σ H Q h => ?_
  obtain ⟨S, O, env, r, st, hr, post⟩ := h
  simp only [ev] at hr
  refine one st hr post fun x e1 S1 O1 H1 vx s1 st1 ox hk post1 => ?_
  obtain ⟨dx, h1, k1⟩ := ofO_some hk
  split at k1
  case isFalse => cases k1
  simp only [evs] at k1
  obtain ⟨ds, h2, k2⟩ := ofO_some k1
  obtain ⟨v, h3, k3⟩ := ofO_some k2
  simp only [resL] at h2
  cases h2
  cases k3
  simp only [bmD] at h3
  split at h3
  · cases h3
    cases (vw_of st1 ox h1).int
    exact ⟨_, rfl, fin_d st1 post1 (.int _)⟩
  · cases h3
theorem bm1_wk {m : Bm} {r : V → List V → Hp → VK → Prop} {ea eb : E} (ht : ∀ {d : D}, bmT m d = true → ∃ a, d = .str a) (red : ∀ {a : Str} {ds : List D} {v : Val}, bmD m (.str a) ds = some v → ∃ b d, ds = [.str b] ∧ v = .d d ∧ (∀ S : Hp, ∃ x, Rp T.K S x d ∧ ∀ {Q : VK} {H : Hp}, Q x H → r (.str a) [.str b] H Q))
    (h : tE W T (.bm m ea (.cons eb .nil)) σ H Q) : tM1 r (tO W T ea) (tO W T eb) σ H Q := by
  obtain ⟨S, O, env, q, st, hr, post⟩ := h
  simp only [ev] at hr
  refine one st hr post fun x e1 S1 O1 H1 vx s1 st1 ox hk post1 => ?_
  obtain ⟨dx, h1, k1⟩ := ofO_some hk
  split at k1
  case isFalse => cases k1
  rename_i hT
  obtain ⟨a, rfl⟩ := ht hT
  cases (vw_of st1 ox h1).str
  refine ⟨⟨a, rfl⟩, ?_⟩
  simp only [evs] at k1
  cases q2 : Res.o (ev T.F eb e1) with
  | none => rw [q2] at k1; cases k1
  | some r2 =>
    rw [q2] at k1
    refine ⟨S1, O1, e1, r2, st1, q2, ?_⟩
    cases r2 with
    | exc c e2 => cases k1; exact post1
    | ok y e2 =>
      intro S2 O2 H2 vy s2 ⟨fp, hE, hv⟩
      have oy : OpV T.K σ S2 vy y := by
        cases y with
        | d d => exact hv
        | sl i => exact hv
        | fr c => exact (ro_fr q2).elim
      simp only at k1
      obtain ⟨ds, h2, k2⟩ := ofO_some k1
      obtain ⟨v, h3, k3⟩ := ofO_some k2
      obtain ⟨b, d, rfl, rfl, h4⟩ := red h3
      cases k3
      simp only [resL] at h2
      split at h2
      · rename_i dy hy
        simp at h2
        subst h2
        cases (vw_of ⟨fp, hE⟩ oy hy).str
        obtain ⟨z, rz, hz⟩ := h4 S2
        exact hz (fin_d ⟨fp, hE⟩ (post1.step s2) rz)
      · cases h2
theorem pe_efind {a b : Expr} {ea eb : E} {ap pos : Pos} (ha : PE X a (tE W T ea)) (hb : PE X b (tE W T eb)) (hpb : plainE b = true) (hbase : attributeBase a "find" X.env (eval a X.env) = eval a X.env) (hl : (ap.endLine == pos.line) = true) : PE X (.Call (.Attribute a "find" ap) [b] [] pos) (tE W T (.bm .find ea (.cons eb .nil))) :=
  (pe_m1 PySem.F.slot_str_find PySem.F.type_str_find mt_find (pe_o ha) (pe_o hb) (star_of hpb [] _) hbase hl).wk fun σ H Q h => bm1_wk (fun {d} h => by cases d <;> simp [bmT] at h; exact ⟨_, rfl⟩) (fun {a ds v} h => by
    simp only [bmD] at h
    split at h
    · rename_i b e
      cases e
      cases h
      exact ⟨b, _, rfl, rfl, fun S => ⟨_, .int _, fun q => ⟨_, _, rfl, rfl, q⟩⟩⟩
    · cases h) h
theorem pe_ecount {a b : Expr} {ea eb : E} {ap pos : Pos} (ha : PE X a (tE W T ea)) (hb : PE X b (tE W T eb)) (hpb : plainE b = true) (hbase : attributeBase a "count" X.env (eval a X.env) = eval a X.env) (hl : (ap.endLine == pos.line) = true) : PE X (.Call (.Attribute a "count" ap) [b] [] pos) (tE W T (.bm .count ea (.cons eb .nil))) :=
  (pe_m1 PySem.F.slot_str_count PySem.F.type_str_count mt_count (pe_o ha) (pe_o hb) (star_of hpb [] _) hbase hl).wk fun σ H Q h => bm1_wk (fun {d} h => by cases d <;> simp [bmT] at h; exact ⟨_, rfl⟩) (fun {a ds v} h => by
    simp only [bmD] at h
    split at h
    · rename_i b e
      cases e
      cases h
      exact ⟨b, _, rfl, rfl, fun S => ⟨_, .int _, fun q => ⟨_, _, rfl, rfl, q⟩⟩⟩
    · cases h) h
/-! ### turned round -/
def tRevS (te : TE) : TE := fun σ H Q => te σ H fun x H1 => ∃ z : Str, x = .str z ∧ z.length ≤ sizeLine ∧ Q (.str ⟨((Builtin.Str.strSliceIndices none none (-1) z.length).filterMap (z.cps[·]?)).toArray⟩) H1
theorem rev_len (z : Str) : (⟨((Builtin.Str.strSliceIndices none none (-1) z.length).filterMap (z.cps[·]?)).toArray⟩ : Str).length ≤ z.length := by
  show (((Builtin.Str.strSliceIndices none none (-1) z.length).filterMap (z.cps[·]?)).toArray).size ≤ z.length
  rw [List.size_toArray]
  refine Nat.le_trans (List.length_filterMap_le _ _) ?_
  have e : Builtin.Str.strSliceIndices none none (-1) z.length = sliceRange ((z.length : Int) - 1) (-1) (-1) := rfl
  rw [e]
  exact sliceRange_length_le _ _ _ _ (fun h => absurd h (by decide)) fun _ => ⟨Int.le_refl _, by decide⟩
theorem pe_revS {e : Expr} {te : TE} {k : Nat} {p1 p2 p3 pos : Pos} (he : PE X e te) : PE X (.Subscript e (.Slice none none (some (.UnaryOp .USub (.Constant (.int 1) k p1) p2)) p3) pos) (tRevS te) := by
  refine ⟨fun pins s σ H Q I h => Subscript_ (thn (he.run pins s σ H _ I h) fun v s1 ⟨x, H1, I1, r1, z, ez, hz, q⟩ => ?_)⟩
  subst ez
  obtain ⟨t, rfl⟩ := r1
  have hst : PO X (some (.UnaryOp .USub (.Constant (.int 1) k p1) p2)) (tPart (tUn (rU fun i => .int (-i)) (tC (.int 1)))) := po_some (pe_un un_neg pe_int)
  refine wpAny_Slice (thn (po_none.run pins s1 σ H1 (fun o G => o = none ∧ G = H1) I1 ⟨rfl, rfl⟩) fun vl s2 ⟨l, H2, I2, pl, el, e2⟩ => ?_)
  subst el e2
  refine thn (po_none.run pins s2 σ H2 (fun o G => o = none ∧ G = H2) I2 ⟨rfl, rfl⟩) fun vu s3 ⟨u, H3, I3, pu, eu, e3⟩ => ?_
  subst eu e3
  refine thn (hst.run pins s3 σ H3 (fun o G => o = some (-1) ∧ G = H3) I3 ⟨1, rfl, -1, rfl, rfl, rfl⟩) fun vs s4 ⟨o, H4, I4, ps, eo, e4⟩ => ?_
  subst eo e4
  have el : vl = .none := by cases pl; rfl
  have eu : vu = .none := by cases pu; rfl
  obtain ⟨t3, es⟩ : ∃ t3, vs = .int (-1) t3 := by cases ps; exact ⟨_, rfl⟩
  subst el eu es
  have I5 : Inv X pins σ H4 { s4 with heap := s4.heap.push { cls := .type "slice", data := .fields #[.none, .none, .int (-1) t3] } } := I4.kept (t' := s4.toks) fun b ob q => Heap.get?_push_of_some _ q
  show wpAny (model X.prog X.w) X.A (subscriptTail e (.Slice none none (some (.UnaryOp .USub (.Constant (.int 1) k p1) p2)) p3) (.str z t) (.ref s4.heap.objs.size)) (EP X pins σ Q) X.xe { s4 with heap := s4.heap.push { cls := .type "slice", data := .fields #[.none, .none, .int (-1) t3] } }
  refine tail_any (ops := [.ref s4.heap.objs.size, .str z t]) (typeIs_str _ z t) (PySem.F.slot_str_getitem.lookup) ?_ (by with_unfolding_all rfl)
  refine wpAny_getItem_str_slice (l := none) (u := none) (st := some (-1, t3)) ⟨_, Heap.get?_push_size s4.heap rfl, rfl, rfl⟩ rfl ?_
  have em : sliceMade z t none none (some (-1, t3)) = .str ⟨((Builtin.Str.strSliceIndices none none (-1) z.length).filterMap (z.cps[·]?)).toArray⟩ := rfl
  rw [em]
  exact ⟨Nat.le_trans (rev_len z) hz, .str _, H4, I5.tok _, ⟨_, rfl⟩, q⟩
theorem pe_erev {a : Expr} {ea : E} {k : Nat} {p1 p2 p3 pos : Pos} (h : PE X a (tE W T ea)) : PE X (.Subscript a (.Slice none none (some (.UnaryOp .USub (.Constant (.int 1) k p1) p2)) p3) pos) (tE W T (.rev ea)) := by
  refine ((pe_revL (pe_o h)).or (pe_revS (pe_o h))).wk fun σ H Q h => ?_
  obtain ⟨S, O, env, r, st, hr, post⟩ := h
  simp only [ev] at hr
  by_cases ls : ∃ x e1 ds, Res.o (ev T.F ea env) = some (.ok x e1) ∧ res e1 x = some (.list ds)
  · obtain ⟨x, e1, ds, q1, q2⟩ := ls
    refine .inl (one' st hr post fun x' e1' S1 O1 H1 vx p1 s1 st1 ox hk post1 => ?_)
    rw [q1] at p1
    cases p1
    rw [q2] at hk
    simp only [ofO, revD] at hk
    cases hk
    obtain ⟨a, vs, rfl, e, rr⟩ := (vw_of st1 ox q2).list st1.sub
    exact ⟨a, vs, rfl, SqL.of e, fin_lst st1 post1 rr.reverse⟩
  · refine .inr (one' st hr post fun x' e1' S1 O1 H1 vx p1 s1 st1 ox hk post1 => ?_)
    obtain ⟨dx, h1, hk⟩ := ofO_some hk
    obtain ⟨v, h2, hk⟩ := ofO_some hk
    unfold revD at h2
    split at h2
    · exact absurd ⟨x', e1', _, p1, h1⟩ ls
    · rename_i z
      cases (vw_of st1 ox h1).str
      split at h2
      · rename_i hz
        cases h2
        cases hk
        exact ⟨z, rfl, by rw [line_eq]; exact hz, fin_d st1 post1 (.str _)⟩
      · cases h2
    · cases h2
end
end Fin
/-! Fin 9: what loops go over; targets; comprehensions. -/
namespace Fin
open PySem PySem.Spec PyProof.Rows L2
/-- what a turn gives -/
def Gives (K : PySem.W.Frag) (S H : Hp) (x : V) (H' : Hp) (d : D) : Prop :=
  (H' = H ∧ Rp K S x d) ∨ ∃ a x1 x2 d1 d2, x = .ref a ∧ H a = none ∧ H' = upd H a (.tup [x1, x2]) ∧ d = .tuple [d1, d2] ∧ Rp K S x1 d1 ∧ Rp K S x2 d2
structure WalkD (K : PySem.W.Frag) (S : Hp) (J : L2.It) (ds : List D) : Prop where
  goes : ∀ i H, i < ds.length → Sub S H → J.go i H
  stops : ∀ H, Sub S H → J.stop ds.length H
  yields : ∀ i H x H', i < ds.length → Sub S H → J.yld i H x H' → ∃ d, ds[i]? = some d ∧ Gives K S H x H' d
theorem Gives.mono {K : PySem.W.Frag} {S S' H : Hp} {x : V} {H' : Hp} {d : D} (e : Sub S S') (g : Gives K S H x H' d) : Gives K S' H x H' d := by
  rcases g with ⟨h, r⟩ | ⟨a, x1, x2, d1, d2, h1, h2, h3, h4, r1, r2⟩
  · exact .inl ⟨h, r.mono e⟩
  · exact .inr ⟨a, x1, x2, d1, d2, h1, h2, h3, h4, r1.mono e, r2.mono e⟩
theorem WalkD.mono {K : PySem.W.Frag} {S S' : Hp} {J : L2.It} {ds : List D} (e : Sub S S') (w : WalkD K S J ds) : WalkD K S' J ds :=
  ⟨fun i H h s => w.goes i H h (e.trans s), fun H s => w.stops H (e.trans s), fun i H x H' h s y => let ⟨d, h1, g⟩ := w.yields i H x H' h (e.trans s) y; ⟨d, h1, g.mono e⟩⟩
section
variable {X : Cx} {T : Tbl} {W : WX} {S H : Hp} {O : Addr → Prop} {σ : L2.St} {env : Env} {Q : VK}
theorem walkD_list {K : PySem.W.Frag} {a : Addr} {vs : List V} {ds : List D} (h : S a = some (.lst vs)) (r : RpAll T.K S vs ds) : WalkD T.K S (Itl K a) ds := by
  have w := walk_list (K := K) (a := a) (xs := vs)
  rw [r.length] at w
  exact ⟨fun i H hi s => w.goes i H hi (SqL.of (s _ _ h)), fun H s => w.stops H (SqL.of (s _ _ h)), fun i H x H' hi s y => by
    obtain ⟨h1, h2⟩ := w.yields i H x H' hi (SqL.of (s _ _ h)) y
    obtain ⟨d, h3, h4⟩ := r.get' h2
    exact ⟨d, h3, .inl ⟨h1, h4⟩⟩⟩
theorem walkD_tup {K : PySem.W.Frag} {a : Addr} {vs : List V} {ds : List D} (hK : T.K = K) (h : SqT T.K S a vs) (r : RpAll T.K S vs ds) : WalkD T.K S (Itt K a) ds := by
  subst hK
  have w := walk_tup (K := T.K) (a := a) (xs := vs)
  rw [r.length] at w
  exact ⟨fun i H hi s => w.goes i H hi (sqT_sub s h), fun H s => w.stops H (sqT_sub s h), fun i H x H' hi s y => by
    obtain ⟨h1, h2⟩ := w.yields i H x H' hi (sqT_sub s h) y
    obtain ⟨d, h3, h4⟩ := r.get' h2
    exact ⟨d, h3, .inl ⟨h1, h4⟩⟩⟩
theorem walkD_str {z : Str} : WalkD T.K S (Its z) (z.cps.toList.map fun c => PyData.str ⟨#[c]⟩) := by
  have w := walk_str (z := z)
  refine ⟨fun i H hi s => w.goes i H (by simpa using hi) trivial, fun H s => by have := w.stops H trivial; simpa using this, fun i H x H' hi s y => ?_⟩
  obtain ⟨h1, c, h2, rfl⟩ := w.yields i H x H' (by simpa using hi) trivial y
  exact ⟨.str ⟨#[c]⟩, by simp [h2], .inl ⟨h1, .str _⟩⟩
theorem walkD_range {lo : Int} {n : Nat} : WalkD T.K S (Itr lo n) ((List.range n).map fun (k : Nat) => PyData.int (lo + (k : Int))) := by
  have w := walk_range (lo := lo) (n := n)
  refine ⟨fun i H hi s => w.goes i H (by simpa using hi) trivial, fun H s => by have := w.stops H trivial; simpa using this, fun i H x H' hi s y => ?_⟩
  have hi' : i < n := by simpa using hi
  obtain ⟨h1, rfl⟩ := w.yields i H x H' hi' trivial y
  exact ⟨.int (lo + i), by simp [hi'], .inl ⟨h1, .int _⟩⟩
def PostI (T : Tbl) (W : WX) (S : Hp) (O : Addr → Prop) (H : Hp) (σ : L2.St) (R : L2.It → Hp → Prop) : RsI → Prop
  | .ok ds env => ∀ S' O' H' J, Step S O H S' O' H' → St0 T S' O' H' σ env → WalkD T.K S' J ds → R J H'
  | .exc c env => ∀ S' O' H', Step S O H S' O' H' → St0 T S' O' H' σ env → W (T.cls c) none σ H'
def tI (W : WX) (T : Tbl) (it : It) : TI := fun σ H R => ∃ S O env r, St0 T S O H σ env ∧ evi T.F it env = some r ∧ PostI T W S O H σ R r
theorem frz1 {v : Val} {x : V} {env' : Env} {d : D} (st : St0 T S O H σ env) (ov : OpV T.K σ S x v) (h : frzS env [v] = some env') (hd : res env v = some d) : ∃ S' O', Step S O H S' O' H ∧ St0 T S' O' H σ env' ∧ Rp T.K S' x d := by
  obtain ⟨S', O', s, st', k⟩ := frz_of st (.cons ov .nil) h
  refine ⟨S', O', s, st', ?_⟩
  cases k [d] (by simp [resL, hd]) with
  | cons r _ => exact r
theorem pi_eseq {tg e : Expr} {ea : E} (hK : T.K = X.K) (he : PE X e (tE W T ea)) : PI X tg e (tI W T (.seq ea)) := by
  refine ((pi_list (pe_o he)).or ((pi_tup (pe_o he)).or (pi_str (pe_o he)))).wk fun σ H R h => ?_
  obtain ⟨S, O, env, r, st, hr, post⟩ := h
  simp only [evi] at hr
  cases q : Res.o (ev T.F ea env) with
  | none => rw [q] at hr; cases hr
  | some r1 =>
    rw [q] at hr
    cases r1 with
    | exc c e1 =>
      cases hr
      exact .inl ⟨S, O, env, _, st, q, post⟩
    | ok v e1 =>
      have opv : ∀ {S1 H1 : Hp} {O1 : Addr → Prop} {x : V}, StV T S1 O1 H1 σ e1 x v → St0 T S1 O1 H1 σ e1 ∧ OpV T.K σ S1 x v := fun {S1 H1 O1 x} ⟨fp, hE, hv⟩ => by
        refine ⟨⟨fp, hE⟩, ?_⟩
        cases v with
        | d d => exact hv
        | sl i => exact hv
        | fr c => exact (ro_fr q).elim
      simp only at hr
      split at hr
      · rename_i e2 ds hf hd
        cases hr
        refine .inl ⟨S, O, env, _, st, q, fun S1 O1 H1 x s1 sv => ?_⟩
        obtain ⟨st1, ov⟩ := opv sv
        obtain ⟨S2, O2, s2, st2, rp⟩ := frz1 st1 ov hf hd
        cases rp with
        | lst e r => exact ⟨_, rfl, ⟨_, SqL.of (st2.sub _ _ e)⟩, post S2 O2 H1 _ (s1.trans s2) st2 (walkD_list e r)⟩
      · rename_i e2 ds hf hd
        cases hr
        refine .inr (.inl ⟨S, O, env, _, st, q, fun S1 O1 H1 x s1 sv => ?_⟩)
        obtain ⟨st1, ov⟩ := opv sv
        obtain ⟨S2, O2, s2, st2, rp⟩ := frz1 st1 ov hf hd
        cases rp with
        | tup e r => exact ⟨_, rfl, ⟨_, hK ▸ sqT_sub st2.sub e⟩, post S2 O2 H1 _ (s1.trans s2) st2 (walkD_tup hK e r)⟩
      · rename_i e2 z hf hd
        cases hr
        refine .inr (.inr ⟨S, O, env, _, st, q, fun S1 O1 H1 x s1 sv => ?_⟩)
        obtain ⟨st1, ov⟩ := opv sv
        obtain ⟨S2, O2, s2, st2, rp⟩ := frz1 st1 ov hf hd
        cases rp with
        | str _ => exact ⟨z, rfl, post S2 O2 H1 _ (s1.trans s2) st2 walkD_str⟩
      · cases hr
theorem pi_erng1 {tg a : Expr} {p pos : Pos} {eas : Es} (hl : eas.len = 1) (hg : Gl X "range") (hm : X.mg "range" = none) (ha : PA X [a] (tA W T eas)) (hp : plainE a = true) : PI X tg (.Call (.Name "range" p) [a] [] pos) (tI W T (.rng eas)) := by
  refine (pi_range1 hg hm ha (by rw [star_of hp] <;> rfl)).wk fun σ H R h => ?_
  obtain ⟨S, O, env, r, st, hr, post⟩ := h
  simp only [evi] at hr
  split at hr
  · rename_i n e1 q
    split at hr
    · rename_i hn
      cases hr
      refine ⟨S, O, env, _, st, q, fun S1 O1 H1 xs s1 st1 ov => ?_⟩
      cases ov with
      | cons o os =>
        cases os
        cases (show Rp T.K S1 _ (.int n) from o)
        have hb : -(2 ^ 62) ≤ n ∧ n < 2 ^ 62 := by have q := of_decide_eq_true hn; omega
        exact ⟨n, rfl, hb.1, hb.2, post S1 O1 H1 _ s1 st1 walkD_range⟩
    · cases hr
  · rename_i a n e1 q
    have := evs_len q
    rw [hl] at this
    cases this
  · cases hr
theorem pi_erng2 {tg a b : Expr} {p pos : Pos} {eas : Es} (hl : eas.len = 2) (hg : Gl X "range") (hm : X.mg "range" = none) (ha : PA X [a, b] (tA W T eas)) (hp : plainE a = true) (hpb : plainE b = true) : PI X tg (.Call (.Name "range" p) [a, b] [] pos) (tI W T (.rng eas)) := by
  refine (pi_range2 hg hm ha (by rw [star_of hp, star_of hpb] <;> rfl) (by rw [star_of hpb] <;> rfl)).wk fun σ H R h => ?_
  obtain ⟨S, O, env, r, st, hr, post⟩ := h
  simp only [evi] at hr
  split at hr
  · rename_i n e1 q
    have := evs_len q
    rw [hl] at this
    cases this
  · rename_i i n e1 q
    split at hr
    · rename_i hn
      cases hr
      refine ⟨S, O, env, _, st, q, fun S1 O1 H1 xs s1 st1 ov => ?_⟩
      cases ov with
      | cons o os =>
        cases os with
        | cons o2 os =>
          cases os
          cases (show Rp T.K S1 _ (.int i) from o)
          cases (show Rp T.K S1 _ (.int n) from o2)
          have hb := of_decide_eq_true hn
          exact ⟨i, n, rfl, by omega, post S1 O1 H1 _ s1 st1 walkD_range⟩
    · cases hr
  · cases hr

/-! ### targets -/
def gAll : List Nat → TGs
  | [] => gNil
  | i :: is => gCons (gName i) (gAll is)
def gOf (K : PySem.W.Frag) : Tg → TG
  | .one i => gName i
  | .many is => gTup K is.length (gAll is)
theorem gAll_red {R : L2.St → Hp → Prop} : ∀ {is : List Nat} {xs : List V} {ds : List D} {σ : L2.St} {env env' : Env}, St0 T S O H σ env → RpAll T.K S xs ds → bindL T.F is ds env = some env' → (∀ σ', St0 T S O H σ' env' → R σ' H) → gAll is xs σ H R
  | [], _, _, _, _, _, st, .nil, h, k => by simp [bindL] at h; subst h; exact ⟨rfl, k _ st⟩
  | [], _, _, _, _, _, st, .cons _ _, h, k => by simp [bindL] at h
  | i :: is, _, _, _, _, _, st, .nil, h, k => by simp [bindL] at h
  | i :: is, _, _, _, _, _, ⟨fp, hE⟩, .cons r rs, h, k => by
    simp only [bindL] at h
    split at h
    case isFalse => cases h
    rename_i ok
    refine ⟨_, _, rfl, ?_⟩
    exact gAll_red ⟨_, hE.store (i := i) (okp ok) (.val r) (fun _ z => by simp at z) fun _ z => by simp at z⟩ rs h k
theorem bindL_len : ∀ {is : List Nat} {ds : List D} {env env' : Env}, bindL T.F is ds env = some env' → ds.length = is.length
  | [], [], _, _, _ => rfl
  | [], _ :: _, _, _, h => by simp [bindL] at h
  | _ :: _, [], _, _, h => by simp [bindL] at h
  | i :: is, d :: ds, _, _, h => by
    simp only [bindL] at h
    split at h
    case isFalse => cases h
    simp [bindL_len h]
theorem gives_base {x : V} {d : D} {H' : Hp} (st : St0 T S O H σ env) (g : Gives T.K S H x H' d) : ∃ S', Step S O H S' O H' ∧ St0 T S' O H' σ env ∧ Rp T.K S' x d := by
  rcases g with ⟨rfl, r⟩ | ⟨a, x1, x2, d1, d2, rfl, ha, rfl, rfl, r1, r2⟩
  · exact ⟨S, .refl, st, r⟩
  · obtain ⟨fp, hE⟩ := st
    have s := Step.allocS (O := O) (o := .tup [x1, x2]) ha hE.sub
    exact ⟨_, s, ⟨fp, hE.allocS ha⟩, .tup (SqT.of upd_same) (.cons (r1.mono s.ss) (.cons (r2.mono s.ss) .nil))⟩
theorem tgt_red {K : PySem.W.Frag} {t : Tg} {x : V} {d : D} {H' : Hp} {env' : Env} {R : L2.St → Hp → Prop} (hK : T.K = K) (st : St0 T S O H σ env) (g : Gives T.K S H x H' d) (h : bindT T.F t d env = some env')
    (k : ∀ S' σ', Step S O H S' O H' → St0 T S' O H' σ' env' → R σ' H') : gOf K t x σ H' R := by
  obtain ⟨S', s, st', r⟩ := gives_base st g
  cases t with
  | one i =>
    simp only [bindT] at h
    split at h
    case isFalse => cases h
    rename_i ok
    cases h
    obtain ⟨fp, hE⟩ := st'
    exact k S' _ s ⟨_, hE.store (i := i) (okp ok) (.val r) (fun _ z => by simp at z) fun _ z => by simp at z⟩
  | many is =>
    cases d <;> simp only [bindT] at h <;> try (cases h; done)
    rename_i ds
    cases r with
    | @tup a xs _ e rr =>
      have hl := bindL_len h
      exact ⟨a, xs, rfl, hK ▸ sqT_sub st'.sub e, by rw [rr.length]; exact hl, gAll_red st' rr h fun σ' st2 => k S' σ' s st2⟩
end
end Fin
/-! Fin 9b: more built-in functions, dicts' methods, more that loops go over. -/
namespace Fin
open PySem PySem.Spec PyProof.Rows L2
section
variable {X : Cx} {T : Tbl} {W : WX} {S H : Hp} {O : Addr → Prop} {σ : L2.St} {env : Env} {Q : VK}
variable {e : Expr} {es : List Expr} {eas : Es} {p pos : Pos}
/-! ### sorted, sum -/
theorem sortI_unique : ∀ {ms ns : List Int}, ms.Perm ns → ms.Pairwise (· ≤ ·) → ms = sortI ns := fun {ms ns} hp hs => by
  have h1 : (sortI ns).Pairwise (· ≤ ·) := by
    have := List.pairwise_mergeSort (le := fun a b : Int => decide (a ≤ b)) (fun a b c h1 h2 => by simp at *; omega) (fun a b => by simp; omega) ns
    exact this.imp (by simp)
  have h2 : ms.Perm (sortI ns) := hp.trans (List.mergeSort_perm ns _).symm
  exact List.Perm.eq_of_pairwise (fun a b _ _ h1 h2 => Int.le_antisymm h1 h2) hs h1 h2
theorem pe_esorted (hK : T.K = X.K) (hg : Gl X "sorted") (hm : X.mg "sorted" = none) (ha : PA X (e :: es) (tA W T eas)) (hp : plainEs (e :: es) = true) : PE X (.Call (.Name "sorted" p) (e :: es) [] pos) (tE W T (.bi .sorted eas)) := by
  have h2 : plainE e = true ∧ plainEs es = true := by simpa [plainEs] using hp
  refine (pe_callB cr_sortedI hg hm (by decide +kernel) ha (he := star_of h2.1 es _) (hpl := back_of h2.2 _ _)).wk fun σ H Q h => bi_wk (fun {S O H env xs ds v} st vl hb f => ?_) h
  replace hb : biSorted ds = some v := hb
  unfold biSorted at hb
  split at hb
  · rename_i xs0
    obtain ⟨ns, q, rfl⟩ := Option.map_eq_some_iff.mp hb
    obtain ⟨x, rfl, hx⟩ := vl.one
    obtain ⟨a, vs, rfl, e, r⟩ := hx.list st.sub
    rw [intsD_some q] at r
    have r2 := r.ints
    subst r2
    refine ⟨a, ns, rfl, SqL.of e, fun ns' p hp hs hn => ?_⟩
    rw [sortI_unique hp hs]
    exact fin_lst st f (RpAll.of_ints _) p hn
  · cases hb
theorem pe_esum (hc : X.calm = true) (hg : Gl X "sum") (hm : X.mg "sum" = none) (ha : PA X (e :: es) (tA W T eas)) (hp : plainEs (e :: es) = true) : PE X (.Call (.Name "sum" p) (e :: es) [] pos) (tE W T (.bi .sum eas)) := by
  have h2 : plainE e = true ∧ plainEs es = true := by simpa [plainEs] using hp
  refine (pe_callB (cr_sum hc) hg hm (by decide +kernel) ha (he := star_of h2.1 es _) (hpl := back_of h2.2 _ _)).wk fun σ H Q h => bi_wk (fun {S O H env xs ds v} st vl hb f => ?_) h
  replace hb : biSum ds = some v := hb
  unfold biSum at hb
  split at hb
  · rename_i xs0
    obtain ⟨ns, q, rfl⟩ := Option.map_eq_some_iff.mp hb
    obtain ⟨x, rfl, hx⟩ := vl.one
    obtain ⟨a, vs, rfl, e, r⟩ := hx.list st.sub
    rw [intsD_some q] at r
    have r2 := r.ints
    subst r2
    exact ⟨a, ns, rfl, SqL.of e, fin_d st f (.int _)⟩
  · cases hb
/-! ### xs.index(x) -/
theorem pe_eindex {a b : Expr} {ea eb : E} {ap : Pos} (hK : T.K = X.K) (ha : PE X a (tE W T ea)) (hb : PE X b (tE W T eb)) (hpb : plainE b = true) (hbase : attributeBase a "index" X.env (eval a X.env) = eval a X.env) (hl : (ap.endLine == pos.line) = true) : PE X (.Call (.Attribute a "index" ap) [b] [] pos) (tE W T (.b2 .index ea eb)) := by
  have hq : plainEs [b] = true := by simp [plainEs, hpb]
  refine (pe_bm PySem.F.plainAttrs_list PySem.F.slot_list_index PySem.F.type_list_index mt_index (pe_o ha) (pa_cons (pe_o hb) pa_nil (star_of hpb [] _)) (hbase := hbase) (hline := hl) (hs := star_of hpb [] _) (hfew := by rw [stars_of hq]; rfl)).wk fun σ H Q h => ?_
  obtain ⟨S, O, env, q, st, hr, post⟩ := h
  simp only [ev] at hr
  refine one st hr post fun x e1 S1 O1 H1 vx s1 st1 ox hk post1 => ?_
  obtain ⟨d0, h1, k1⟩ := ofO_some hk
  split at k1
  case isFalse => cases k1
  rename_i hT
  have hd0 : ∃ xs, d0 = .list xs := by cases d0 <;> simp [b2T] at hT; exact ⟨_, rfl⟩
  obtain ⟨xs0, rfl⟩ := hd0
  obtain ⟨a0, vs0, rfl, e0, r0⟩ := (vw_of st1 ox h1).list st1.sub
  refine ⟨.inl ⟨rfl, vs0, SqL.of e0⟩, ?_⟩
  refine one st1 k1 post1 fun y e2 S2 O2 H2 vy s2 st2 oy hk2 post2 => ?_
  obtain ⟨dx, h2, k2⟩ := ofO_some hk2
  obtain ⟨dy, h3, k3⟩ := ofO_some k2
  obtain ⟨v, h4, k4⟩ := ofO_some k3
  cases k4
  simp only [b2D] at h4
  split at h4
  · rename_i xs
    split at h4
    · rename_i hf
      simp only [Bool.and_eq_true] at hf
      obtain ⟨j, hj, rfl⟩ := Option.map_eq_some_iff.mp h4
      obtain ⟨a1, vs, ea1, e1', r1⟩ := (vw_of st2 (ox.mono s2.ss) h2).list st2.sub
      cases ea1
      have ry : Rp T.K S2 vy dy := by
        have hv := vw_of st2 oy h3
        cases hv with
        | rp r => exact r
        | lst _ _ => cases hf.1
        | dic _ _ => cases hf.1
      have hfl := flat_all r1 hf.2
      unfold idxD at hj
      rw [List.findIdx?_eq_some_iff_getElem] at hj
      obtain ⟨hjl, hj1, hj2⟩ := hj
      obtain ⟨w, hw1, hw2⟩ := r1.get (List.getElem?_eq_getElem hjl)
      have fl : ∀ {m : Nat} {d : D}, xs[m]? = some d → flatD d = true := fun {m d} h => List.all_eq_true.mp hf.2 d (List.mem_of_getElem? h)
      refine ⟨a0, vs, vy, j, w, rfl, rfl, SqL.of e1', flat_rp ry hf.1, hfl, hw1, ?_, fun m z' hm hz => ?_, fin_d st2 post2 (.int _)⟩
      · rw [flat_eqv hw2 ry (fl (List.getElem?_eq_getElem hjl)) hf.1]; exact hj1
      · obtain ⟨d', hd1, hd2⟩ := r1.get' hz
        rw [flat_eqv hd2 ry (fl hd1) hf.1]
        have hml : m < xs.length := Nat.lt_trans hm hjl
        have e9 : xs[m] = d' := by rw [List.getElem?_eq_getElem hml] at hd1; exact Option.some.inj hd1
        have := hj2 m hm
        rw [e9] at this
        simpa using this
    · cases h4
  · cases h4
/-! ### dicts: get, setdefault -/
theorem dict_get2 {v w : V} {d : D} {kvs : List (D × D)} {k : Key} (hx : Vw T.K S H v d) (hy : Vw T.K S H w (.dict kvs)) (n : flOf kvs = none) (e : keyOf d = some k) {dv : D} {z : V} (hz : Rp T.K S z dv) :
    ∃ a o, w = .ref a ∧ DGet H a v o ∧ Rp T.K S (o.getD z) (((kvs.find? fun p => decide (keyOf p.1 = some k)).map (·.2)).getD dv) := by
  obtain ⟨a, o, h1, h2, h3, h4⟩ := dict_get hx hy n e
  refine ⟨a, o, h1, h2, ?_⟩
  cases q : (kvs.find? fun p => decide (keyOf p.1 = some k)).map (·.2) with
  | some dv' =>
    obtain ⟨vv, h5, h6⟩ := h4 dv' q
    subst h5
    exact h6
  | none =>
    have : o.isSome = false := by
      rw [h3]
      have q2 : (kvs.find? fun p => decide (keyOf p.1 = some k)) = none := by simpa using q
      rw [List.find?_eq_none] at q2
      rw [List.any_eq_false]
      exact fun p hp => by simpa using q2 p hp
    cases o with
    | none => exact hz
    | some _ => cases this
theorem isD_of {w : V} {kvs : List (D × D)} (hy : Vw T.K S H w (.dict kvs)) (n : flOf kvs = none) : ∃ a, w = .ref a ∧ IsD H a := by
  obtain ⟨a, vs, ys, rfl, h, _, _⟩ := hy.dict n
  exact ⟨a, rfl, .inl ⟨vs, .inl h⟩⟩
theorem isDct_some {d : D} (h : isDct d = true) : ∃ kvs, d = .dict kvs ∧ flOf kvs = none := by
  cases d <;> simp [isDct] at h
  exact ⟨_, rfl, h⟩
theorem m2_of {o e f : Expr} {m : Str} {ap : Pos} (hbase : attributeBase o m X.env (eval o X.env) = eval o X.env) (he : plainE e = true) (hf : plainE f = true) (hl : (ap.endLine == pos.line) = true) : M2 X o m ap e f pos := by
  have hq : plainEs [e, f] = true := by simp [plainEs, he, hf]
  exact ⟨hbase, by rw [stars_of hq]; rfl, hl, by rw [stars_of hq]; rfl⟩
theorem pe_edget {a k d : Expr} {ea ka da : E} {ap : Pos} (hu : X.A.units + 1 < cLine) (ha : PE X a (tE W T ea)) (hk : PE X k (tE W T ka)) (hd : PE X d (tE W T da)) (hpk : plainE k = true) (hpd : plainE d = true) (hbase : attributeBase a "get" X.env (eval a X.env) = eval a X.env) (hl : (ap.endLine == pos.line) = true) :
    PE X (.Call (.Attribute a "get" ap) [k, d] [] pos) (tE W T (.dget ea ka da)) := by
  refine (pe_dget2 hu (pe_o ha) (pe_o hk) (pe_o hd) (m2_of hbase hpk hpd hl)).wk fun σ H Q h => ?_
  obtain ⟨S, O, env, q, st, hr, post⟩ := h
  simp only [ev] at hr
  refine one st hr post fun x e1 S1 O1 H1 vx s1 st1 ox hk post1 => ?_
  obtain ⟨d0, h1, k1⟩ := ofO_some hk
  split at k1
  case isFalse => cases k1
  rename_i hT
  obtain ⟨kvs0, rfl, n0⟩ := isDct_some hT
  obtain ⟨a0, rfl, isd⟩ := isD_of (vw_of st1 ox h1) n0
  refine ⟨a0, rfl, isd, ?_⟩
  refine two st1 k1 post1 fun y z e3 S3 O3 H3 vy vz s3 st3 oy oz hk3 post3 => ?_
  obtain ⟨e4, h4, k4⟩ := ofO_some hk3
  obtain ⟨dx, h5, k5⟩ := ofO_some k4
  obtain ⟨dy, h6, k6⟩ := ofO_some k5
  obtain ⟨dz, h7, k7⟩ := ofO_some k6
  obtain ⟨v, h8, k8⟩ := ofO_some k7
  cases k8
  obtain ⟨S4, O4, s4, st4, rz⟩ := frz1 st3 oz h4 h7
  have hvx := vw_of st3 (ox.mono s3.ss) h5
  have hvy := vw_of st3 oy h6
  unfold dgD at h8
  split at h8
  · rename_i kvs
    split at h8
    · rename_i key n hkk
      cases h8
      obtain ⟨a, vs, ys, ea, hH, rr, rfl⟩ := hvx.dict n
      cases ea
      have hvx4 : Vw T.K S4 H3 (.ref a0) (.dict (ys.map fun p => (keyD p.1, p.2))) := .dic hH (KvR.mono s4.ss rr)
      have hvy4 : Vw T.K S4 H3 vy dy := by
        have e9 := key_vw hvy hkk
        subst e9
        cases dy <;> simp [keyOf] at hkk <;> subst hkk
        · exact .rp (.int _)
        · exact .rp (.str _)
      obtain ⟨a', o, ea', hg, hrp⟩ := dict_get2 hvy4 hvx4 n hkk rz
      cases ea'
      exact ⟨o, hg, fin_d st4 (post3.step s4) hrp⟩
    · cases h8
  · cases h8
theorem pe_edset {i : Nat} {x : Str} {k d : Expr} {ka da : E} {px ap : Pos} (hN : X.N[i]? = some x) (hv : Vis X.env.scope x) (hd : (x == ("__debug__" : Str)) = false) (hcd : (x == ("__classdict__" : Str)) = false)
    (hk : PE X k (tE W T ka)) (hdd : PE X d (tE W T da)) (hpk : plainE k = true) (hpd : plainE d = true) (hl : (ap.endLine == pos.line) = true) :
    PE X (.Call (.Attribute (.Name x px) "setdefault" ap) [k, d] [] pos) (tE W T (.dset i ka da)) := by
  refine (pe_dsetd (pe_var hN hv hd hcd) (pe_o hk) (pe_o hdd) (m2_of rfl hpk hpd hl)).wk fun σ H Q h => ?_
  obtain ⟨S, O, env, q, st, hr, post⟩ := h
  simp only [ev] at hr
  split at hr
  case isFalse => cases hr
  rename_i hic
  have hc : ∃ kvs0, env[i]? = some (some (.dic kvs0)) := by
    cases e2 : env[i]? with
    | none => rw [e2] at hic; simp [isDic] at hic
    | some z =>
      rw [e2] at hic
      cases z with
      | none => simp [isDic] at hic
      | some c => cases c <;> simp [isDic] at hic; exact ⟨_, rfl⟩
  obtain ⟨kvs0, e1⟩ := hc
  obtain ⟨fp, hE⟩ := st
  obtain ⟨v, g, rc⟩ := hE.at_ i _ e1
  have hvv : ∃ a vs, v = .ref a ∧ H a = some (.dK vs) := by
    generalize fp i = fi at rc
    cases rc with
    | dic q r => exact ⟨_, _, rfl, q⟩
  obtain ⟨a, vs0, rfl, hH0⟩ := hvv
  refine ⟨.ref a, g, a, rfl, .inl ⟨vs0, .inl hH0⟩, ?_⟩
  refine two ⟨fp, hE⟩ hr post fun y z e2 S2 O2 H2 vy vz s2 st2 oy oz hk2 post2 => ?_
  obtain ⟨e3, h3, k3⟩ := ofO_some hk2
  obtain ⟨dy, h4, k4⟩ := ofO_some k3
  obtain ⟨dz, h5, k5⟩ := ofO_some k4
  have hvy := vw_of st2 oy h4
  obtain ⟨S3, O3, s3, ⟨fp3, hE3⟩, rz⟩ := frz1 st2 oz h3 h5
  split at k5
  · rename_i kvs ek
    obtain ⟨p, h6, k6⟩ := ofO_some k5
    cases k6
    obtain ⟨v', g2, rc⟩ := hE3.at_ i _ ek
    rw [g] at g2
    cases g2
    have hv3 : ∃ vs, H2 a = some (.dK vs) ∧ KvR T.K S3 vs kvs ∧ fp3 i = [a] := by
      generalize fp3 i = fi at rc
      cases rc with
      | dic q r => exact ⟨_, q, r, rfl⟩
    obtain ⟨vs, hH, rr, hfi⟩ := hv3
    unfold dsD at h6
    split at h6
    · rename_i key hkk
      have ekv := key_vw hvy hkk
      subst ekv
      have q := kv_val rr key
      split at h6
      case isFalse => cases h6
      rename_i hz
      split at h6
      · rename_i pp hf
        cases h6
        rw [hf] at q
        obtain ⟨vv, hq1, hq2⟩ := q
        refine ⟨vs, key, hH, rfl, (by rw [line_eq, rr.length]; exact hz), (fun v hv => ?_), (fun hn => by rw [hq1] at hn; cases hn)⟩
        rw [hq1] at hv
        cases hv
        have he : e3.set i (some (Cell.dic kvs)) = e3 := by
          apply List.ext_getElem?
          intro j
          by_cases hj : i = j
          · subst hj
            have hl := (List.getElem?_eq_some_iff.mp ek).1
            rw [List.getElem?_set_self hl, ek]
          · rw [List.getElem?_set_ne hj]
        rw [he] at post2
        exact fin_d ⟨fp3, hE3⟩ (post2.step s3) hq2
      · rename_i hf
        cases h6
        rw [hf] at q
        have q : valV vs key = none := q
        refine ⟨vs, key, hH, rfl, (by rw [line_eq, rr.length]; exact hz), (fun v hv => by rw [q] at hv; cases hv), fun _ => ?_⟩
        have kp : ∀ {S : Hp} {vs : List (Key × V)} {ys : List (Key × D)} (r : KvR T.K S vs ys) {y : V} {d : D} (rp : Rp T.K S y d), valV vs key = none → (ys.find? fun p => decide (p.1 = key)) = none → KvR T.K S (putK vs key y) (putD ys key d) := fun {S vs ys} r {y d} rp h1 h2 => by
          rw [putK_new y h1]
          unfold putD
          rw [if_neg (by
            rw [List.find?_eq_none] at h2
            simp only [Bool.not_eq_true, List.any_eq_false]
            exact fun p hp => by simpa using h2 p hp)]
          exact Paired.snoc r ⟨rfl, rp⟩
        obtain ⟨s4, E4⟩ := hE3.change (o := .dK (putK vs key vz)) (c := .dic (putD kvs key dz)) g hfi (.dic upd_same (kp rr rz q hf))
        exact post2 S3 O3 _ vz (s3.trans s4) ⟨fp3, E4, rz⟩
    · cases h6
  · cases k5
end
end Fin
/-! Fin 9c: enumerate, reversed, list(range). -/
namespace Fin
open PySem PySem.Spec PyProof.Rows L2
section
variable {X : Cx} {T : Tbl} {W : WX} {S H : Hp} {O : Addr → Prop} {σ : L2.St} {env : Env} {Q : VK}
theorem walkD_enum {K : PySem.W.Frag} {a : Addr} {vs : List V} {ds : List D} (h : S a = some (.lst vs)) (r : RpAll T.K S vs ds) : WalkD T.K S (Ite K a) (enumD ds) := by
  have hl : (enumD ds).length = ds.length := by simp [enumD]
  refine ⟨fun i H hi s => ?_, fun H s => ⟨vs, SqL.of (s _ _ h), by rw [hl, r.length]; exact Nat.le_refl _⟩, fun i H x H' hi s y => ?_⟩
  · have hi' : i < vs.length := by rw [r.length, ← hl]; exact hi
    exact ⟨vs, vs[i], SqL.of (s _ _ h), List.getElem?_eq_getElem hi'⟩
  · obtain ⟨t, x', rfl, hT, rfl, hx⟩ := y
    have hv := hx vs (SqL.of (s _ _ h))
    obtain ⟨d, h1, h2⟩ := r.get' hv
    refine ⟨.tuple [.int (i : Nat), d], ?_, .inr ⟨t, .int (i : Nat), x', .int (i : Nat), d, rfl, hT, rfl, rfl, .int _, h2⟩⟩
    simp [enumD, List.getElem?_mapIdx, h1]
theorem pi_eenum {e : Expr} {p pos tpos : Pos} {elts : List Expr} {kk : Nat} {ea : E} (hK : T.K = X.K) (hg : Gl X "enumerate") (hm : X.mg "enumerate" = none) (he : PE X e (tE W T ea)) (hp : plainE e = true) : PI X (.Tuple elts kk tpos) (.Call (.Name "enumerate" p) [e] [] pos) (tI W T (.enum ea)) := by
  refine (pi_enum hg hm (pa_cons (pe_o he) pa_nil (star_of hp [] _)) (star_of hp [] _)).wk fun σ H R h => ?_
  obtain ⟨S, O, env, r, st, hr, post⟩ := h
  simp only [evi] at hr
  cases q : Res.o (ev T.F ea env) with
  | none => rw [q] at hr; cases hr
  | some r1 =>
    rw [q] at hr
    refine ⟨S, O, env, r1, st, q, ?_⟩
    cases r1 with
    | exc c e1 => cases hr; exact fun S1 O1 H1 s1 st1 => post S1 O1 H1 s1 st1
    | ok v e1 =>
      intro S1 O1 H1 x s1 sv
      have ov : OpV T.K σ S1 x v := by
        obtain ⟨fp, hE, hv⟩ := sv
        cases v with
        | d d => exact hv
        | sl i => exact hv
        | fr c => exact (ro_fr q).elim
      have st1 : St0 T S1 O1 H1 σ e1 := let ⟨fp, e, _⟩ := sv; ⟨fp, e⟩
      simp only at hr
      split at hr
      · rename_i e2 ds hf hd
        cases hr
        obtain ⟨S2, O2, s2, st2, rp⟩ := frz1 st1 ov hf hd
        cases rp with
        | lst e r => exact ⟨_, _, rfl, SqL.of (st2.sub _ _ e), post S2 O2 H1 _ (s1.trans s2) st2 (walkD_enum e r)⟩
      · cases hr
theorem rev_at {α : Type} {l : List α} {i : Nat} (h : i < l.length) : l.reverse[i]? = l[l.length - 1 - i]? := by
  rw [List.getElem?_reverse h]
theorem walkD_rev {K : PySem.W.Frag} {a : Addr} {vs : List V} {ds : List D} (h : S a = some (.lst vs)) (r : RpAll T.K S vs ds) : WalkD T.K S (Itv K a vs.length) ds.reverse := by
  have hl : ds.reverse.length = vs.length := by rw [List.length_reverse, r.length]
  refine ⟨fun i H hi s => ?_, fun H s => by rw [hl]; exact Nat.le_refl _, fun i H x H' hi s y => ?_⟩
  · rw [hl] at hi
    have hi' : vs.length - 1 - i < vs.length := by omega
    exact ⟨hi, vs, vs[vs.length - 1 - i], SqL.of (s _ _ h), List.getElem?_eq_getElem hi'⟩
  · obtain ⟨rfl, hx⟩ := y
    have hv := hx vs (SqL.of (s _ _ h))
    obtain ⟨d, h1, h2⟩ := r.get' hv
    refine ⟨d, ?_, .inl ⟨rfl, h2⟩⟩
    rw [rev_at (by rw [List.length_reverse] at hi; exact hi), ← r.length]
    exact h1
theorem walkD_revT {K : PySem.W.Frag} {a : Addr} {vs : List V} {ds : List D} (hK : T.K = K) (h : SqT T.K S a vs) (r : RpAll T.K S vs ds) : WalkD T.K S (RT.ItvT K a vs.length) ds.reverse := by
  subst hK
  have hl : ds.reverse.length = vs.length := by rw [List.length_reverse, r.length]
  refine ⟨fun i H hi s => ?_, fun H s => by rw [hl]; exact Nat.le_refl _, fun i H x H' hi s y => ?_⟩
  · rw [hl] at hi
    have hi' : vs.length - 1 - i < vs.length := by omega
    exact ⟨hi, vs, vs[vs.length - 1 - i], sqT_sub s h, List.getElem?_eq_getElem hi'⟩
  · obtain ⟨rfl, hx⟩ := y
    have hv := hx vs (sqT_sub s h)
    obtain ⟨d, h1, h2⟩ := r.get' hv
    refine ⟨d, ?_, .inl ⟨rfl, h2⟩⟩
    rw [rev_at (by rw [List.length_reverse] at hi; exact hi), ← r.length]
    exact h1
theorem pi_erev {tg e : Expr} {p pos : Pos} {ea : E} (hK : T.K = X.K) (hg : Gl X "reversed") (hm : X.mg "reversed" = none) (he : PE X e (tE W T ea)) (hp : plainE e = true) : PI X tg (.Call (.Name "reversed" p) [e] [] pos) (tI W T (.rev ea)) := by
  refine (RT.pi_revA hg hm (pe_o he) (star_of hp [] _)).wk fun σ H R h => ?_
  obtain ⟨S, O, env, r, st, hr, post⟩ := h
  simp only [evi] at hr
  cases q : Res.o (ev T.F ea env) with
  | none => rw [q] at hr; cases hr
  | some r1 =>
    rw [q] at hr
    refine ⟨S, O, env, r1, st, q, ?_⟩
    cases r1 with
    | exc c e1 => cases hr; exact fun S1 O1 H1 s1 st1 => post S1 O1 H1 s1 st1
    | ok v e1 =>
      intro S1 O1 H1 x s1 sv
      have ov : OpV T.K σ S1 x v := by
        obtain ⟨fp, hE, hv⟩ := sv
        cases v with
        | d d => exact hv
        | sl i => exact hv
        | fr c => exact (ro_fr q).elim
      have st1 : St0 T S1 O1 H1 σ e1 := let ⟨fp, e, _⟩ := sv; ⟨fp, e⟩
      simp only at hr
      split at hr
      · rename_i e2 ds hf hd
        cases hr
        obtain ⟨S2, O2, s2, st2, rp⟩ := frz1 st1 ov hf hd
        cases rp with
        | lst e r => exact ⟨_, _, rfl, .inl ⟨SqL.of (st2.sub _ _ e), post S2 O2 H1 _ (s1.trans s2) st2 (walkD_rev e r)⟩⟩
      · rename_i e2 ds hf hd
        cases hr
        obtain ⟨S2, O2, s2, st2, rp⟩ := frz1 st1 ov hf hd
        cases rp with
        | tup e r => exact ⟨_, _, rfl, .inr ⟨hK ▸ sqT_sub st2.sub e, post S2 O2 H1 _ (s1.trans s2) st2 (walkD_revT hK e r)⟩⟩
      · cases hr
theorem walkD_rc {lo c : Int} {n : Nat} : WalkD T.K S (Itc lo c n) ((List.range n).map fun (k : Nat) => PyData.int (lo + (k : Int) * c)) := by
  refine ⟨fun i H hi s => (by have h : i < n := (by simpa using hi); exact h), fun H s => by simp [Itc], fun i H x H' hi s y => ?_⟩
  obtain ⟨rfl, rfl⟩ := y
  have hi' : i < n := by simpa using hi
  exact ⟨_, by simp [hi'], .inl ⟨rfl, .int _⟩⟩
theorem pi_erevr {tg a : Expr} {p p2 pos pos2 : Pos} {eas : Es} (hl : eas.len = 1) (hg2 : Gl X "reversed") (hm2 : X.mg "reversed" = none) (hg : Gl X "range") (hm : X.mg "range" = none) (ha : PE X a (tE W T ea)) (he : eas = .cons ea .nil) (hp : plainE a = true) : PI X tg (.Call (.Name "reversed" p2) [.Call (.Name "range" p) [a] [] pos] [] pos2) (tI W T (.revr eas)) := by
  subst he
  refine (pi_revR hg2 hm2 (prg_1 hg hm (pe_o ha) (star_of hp [] _)) rfl).wk fun σ H R h => ?_
  obtain ⟨S, O, env, r, st, hr, post⟩ := h
  simp only [evi] at hr
  split at hr
  · rename_i n e1 q
    split at hr
    · rename_i hn
      cases hr
      have q2 : Res.o (ev T.F ea env) = some (.ok (.d (.int n)) e1) := by
        simp only [evs] at q
        cases q3 : Res.o (ev T.F ea env) with
        | none => rw [q3] at q; cases q
        | some r3 =>
          rw [q3] at q
          cases r3 with
          | exc c e => cases q
          | ok v e => simp only [Option.some.injEq, RsL.ok.injEq, List.cons.injEq, and_true] at q; obtain ⟨rfl, rfl⟩ := q; rfl
      refine ⟨S, O, env, _, st, q2, fun S1 O1 H1 x s1 ⟨fp, hE, hv⟩ => ?_⟩
      cases (show Rp T.K S1 x (.int n) from hv)
      have hb := of_decide_eq_true hn
      refine ⟨n, rfl, by decide, by decide, by omega, by omega, ?_⟩
      have w := walkD_rc (T := T) (S := S1) (lo := 0 + ((n.toNat : Nat) : Int) - 1) (c := -1) (n := n.toNat)
      have e0 : (n - 0).toNat = n.toNat := by rw [Int.sub_zero]
      rw [e0]
      exact post S1 O1 H1 _ s1 ⟨fp, hE⟩ w
    · cases hr
  · cases hr
/-! ### list(range(..)) -/
theorem rgV_eq (a : Int) (b : Int) : rgV a b = (List.range (b - a).toNat).map fun (k : Nat) => V.int (a + (k : Int)) := by
  unfold rgV
  rfl
theorem pe_elrg1 {a : Expr} {ea : E} {p p2 pos pos2 : Pos} (hc : X.calm = true) (hg2 : Gl X "list") (hm2 : X.mg "list" = none) (hg : Gl X "range") (hm : X.mg "range" = none) (ha : PE X a (tE W T ea)) (hp : plainE a = true) : PE X (.Call (.Name "list" p2) [.Call (.Name "range" p) [a] [] pos] [] pos2) (tE W T (.lsI (.rng (.cons ea .nil)))) := by
  refine (pe_listRg hc hg2 hm2 (prg_1 hg hm (pe_o ha) (star_of hp [] _)) rfl).wk fun σ H Q h => ?_
  obtain ⟨S, O, env, r, st, hr, post⟩ := h
  simp only [ev, evi] at hr
  cases q : evs T.F (.cons ea .nil) env with
  | none => rw [q] at hr; cases hr
  | some r1 =>
    rw [q] at hr
    simp only [evs] at q
    cases q3 : Res.o (ev T.F ea env) with
    | none => rw [q3] at q; cases q
    | some r3 =>
      rw [q3] at q
      cases r3 with
      | exc c e =>
        cases q
        cases hr
      | ok v e =>
        cases q
        refine ⟨S, O, env, _, st, q3, fun S1 O1 H1 x s1 ⟨fp, hE, hv⟩ => ?_⟩
        cases v with
        | sl i => cases hr
        | fr c => cases hr
        | d d =>
          cases d with
          | int n =>
           simp only at hr
           split at hr
           · rename_i l e1 hw
             split at hw
             · rename_i hn
               cases hw
               split at hr
               · rename_i hlen
                 cases hr
                 cases (show Rp T.K S1 x (.int n) from hv)
                 have hb := of_decide_eq_true hn
                 refine ⟨n, rfl, ⟨by omega, by omega, by omega, by omega, by omega⟩, fun q hq => ?_⟩
                 have r9 : RpAll T.K S1 (rgV 0 n) ((List.range n.toNat).map fun (k : Nat) => PyData.int (0 + (k : Int))) := by
                   rw [rgV_eq, Int.sub_zero]
                   have : ∀ l : List Nat, RpAll T.K S1 (l.map fun (k : Nat) => V.int (0 + (k : Int))) (l.map fun (k : Nat) => PyData.int (0 + (k : Int))) := fun l => by
                     induction l with
                     | nil => exact .nil
                     | cons a l ih => exact .cons (.int _) ih
                   exact this _
                 exact fin_lst (env := e) ⟨fp, hE⟩ (post.step s1) r9 q hq
               · cases hr
             · cases hw
           · rename_i hw
             split at hw <;> cases hw
           · cases hr
          | _ => cases hr
end
end Fin
/-! Fin 10: comprehensions. -/
namespace Fin
open PySem PySem.Spec PyProof.Rows L2
abbrev W0 : WX := fun _ _ _ _ => False
section
variable {X : Cx} {T : Tbl} {W : WX} {S H : Hp} {O : Addr → Prop} {σ : L2.St} {env : Env} {Q : VK}
theorem pts_enil {X' : Cx} : PTs X' [] (tT W0 T (.val (.c (.bool true)))) := by
  refine ⟨fun pins s σ H Q I h => ?_⟩
  obtain ⟨S, O, env, r, st, hr, post⟩ := h
  simp [evt, ev, Res.o, RsT.of, res, truD, scalD] at hr
  subst hr
  exact pts_nil.run pins s σ H Q I (post S O H .refl st)
theorem pts_eone {X' : Cx} {c : Expr} {ca : Te} (h : PT X' c (tT W0 T ca)) : PTs X' [c] (tT W0 T ca) := pts_one h
/-- behind a comprehension: its own name's slot is what it was -/
theorem EnvR.restore {K : PySem.W.Frag} {ex : Xc} {S1 H1 : Hp} {O1 : Addr → Prop} {i : Nat} {e1 e2 : Env} {fp1 fp : Nat → List Addr} (h1 : EnvR K ex S1 O1 H1 σ e1 fp1) (h : EnvR K ex S O H (σ.set i none) e2 fp) (ss : Sub S1 S) :
    EnvR K ex S O H σ (e2.set i (back (e1[i]?.getD none))) (fun j => if j = i then [] else fp j) := by
  refine ⟨h.sub, by rw [List.length_set, h.len, List.length_set], fun j c e => ?_, fun j k a hj hk => ?_, fun j a hj => ?_, h.out, h1.p0⟩
  · by_cases hj : j = i
    · subst hj
      have hl : j < e2.length := by
        have := (List.getElem?_eq_some_iff.mp e).1
        rwa [List.length_set] at this
      rw [List.getElem?_set_self hl] at e
      injection e with e
      cases q : e1[j]? with
      | none => rw [q] at e; simp [back] at e
      | some z =>
        rw [q] at e
        cases z with
        | none => simp [back] at e
        | some c0 =>
          cases c0 <;> simp [back] at e
          subst e
          obtain ⟨v, e3, rc⟩ := h1.at_ j _ q
          generalize fp1 j = fi at rc
          cases rc with
          | val r => exact ⟨v, e3, by simpa using CellR.val (r.mono ss)⟩
    · rw [List.getElem?_set_ne (Ne.symm hj)] at e
      obtain ⟨v, e3, rc⟩ := h.at_ j c e
      rw [List.getElem?_set_ne (Ne.symm hj)] at e3
      exact ⟨v, e3, by simpa [hj] using rc⟩
  · by_cases q1 : j = i
    · simp [q1] at hj
    · by_cases q2 : k = i
      · simp [q2] at hk
      · simp only [q1, q2, if_false] at hj hk
        exact h.dj j k a hj hk
  · by_cases q1 : j = i
    · simp [q1] at hj
    · simp only [q1, if_false] at hj
      exact h.ow j a hj
theorem Step.add {S' H' : Hp} {O' : Addr → Prop} {D : Addr} (s : Step S O H S' O' H') (hD : H D ≠ none) : Step S (fun a => O a ∨ a = D) H S' (fun a => O' a ∨ a = D) H' :=
  ⟨s.ss, fun a u e n => s.fr a u e fun z => n (.inl z), fun a h n z => s.gs a h (fun z => n (.inl z)) z, fun a z => z.elim (fun z => (s.go a z).imp .inl id) fun z => .inl (.inr z), s.al⟩
theorem lc_wk {it : It} {i : Nat} {ea : E} {ca : Te} {Q : VK} (h : tE W T (.comp ea i it ca) σ H Q) : tLc (tI W T it) (gName i) (tT W0 T ca) (tO W0 T ea) [i] σ H Q := by
  obtain ⟨S, O, env, r, st, hr, post⟩ := h
  simp only [ev] at hr
  split at hr
  case isFalse => cases hr
  rename_i ok
  cases q : evi T.F it env with
  | none => rw [q] at hr; cases hr
  | some r1 =>
    rw [q] at hr
    refine ⟨S, O, env, r1, st, q, ?_⟩
    cases r1 with
    | exc c e1 => cases hr; exact post
    | ok ds e1 =>
      intro S1 O1 H1 J s1 ⟨fp1, hE1⟩ w D hD
      simp only at hr
      split at hr
      · rename_i v e2 hc
        cases hr
        have sD : S1 D = none := by
          cases z : S1 D with
          | none => rfl
          | some u => rw [hE1.sub D u z] at hD; cases hD
        refine ⟨fun k m H => m = ds.length - k ∧ k ≤ ds.length ∧ ∃ S O env acc vs, Step S1 O1 H1 S (fun a => O a ∨ a = D) H ∧ St0 T S O H (σ.set i none) env ∧ ¬ O D ∧ H D = some (.lst vs) ∧ S D = none ∧ RpAll T.K S vs acc ∧
            compL (evt T.F ca) (fun e => Res.o (ev T.F ea e)) i (ds.drop k) env acc = some (.ok v e2), ⟨ds.length, by simp, Nat.zero_le _, S1, O1, e1.set i none, [], [], ?_, ?_, ?_, upd_same, sD, .nil, hc⟩, ?_⟩
        · exact Step.allocO hD
        · exact ⟨_, (hE1.forget i none (okp ok)).other (Sub.refl S1) (hE1.sub.trans (Sub.new hD)) (fun j a u _ e => Sub.new hD a u e) (hE1.forget i none (okp ok)).ow fun a z => ⟨(hE1.out a z).1, by rw [upd_ne (ne_nn (hE1.out a z).2 hD)]; exact (hE1.out a z).2⟩⟩
        · exact fun z => (hE1.out D z).2 hD
        · rintro k m H2 ⟨rfl, hk, S2, O2, env2, acc, vs, s2, st2, nD, hDv, sD2, racc, hcl⟩
          have sub2 := st2.sub
          by_cases hlt : k < ds.length
          · refine .inr ⟨w.mono s2.ss |>.goes k H2 hlt sub2, fun H' => ∃ S O env acc vs, Step S1 O1 H1 S (fun a => O a ∨ a = D) H' ∧ St0 T S O H' (σ.set i none) env ∧ ¬ O D ∧ H' D = some (.lst vs) ∧ S D = none ∧ RpAll T.K S vs acc ∧
              compL (evt T.F ca) (fun e => Res.o (ev T.F ea e)) i (ds.drop (k + 1)) env acc = some (.ok v e2), fun H' hn => ⟨ds.length - (k + 1), by omega, rfl, hlt, hn⟩, fun x H' hy => ?_⟩
            obtain ⟨d, hd, gv⟩ := (w.mono s2.ss).yields k H2 x H' hlt sub2 hy
            rw [List.drop_eq_getElem_cons hlt] at hcl
            have hdd : ds[k] = d := by
              rw [List.getElem?_eq_getElem hlt] at hd
              exact Option.some.inj hd
            rw [hdd] at hcl
            simp only [compL] at hcl
            obtain ⟨S3, s3, ⟨fp3, hE3⟩, rx⟩ := gives_base st2 gv
            have E4 := hE3.store (i := i) (okp ok) (.val rx) (fun _ z => by simp at z) fun _ z => by simp at z
            show wipe ((wipe σ [i]).set i (some x)) [i] = wipe σ [i] ∧ _
            refine ⟨by show ((σ.set i none).set i (some x)).set i none = σ.set i none; rw [List.set_set, List.set_set], ?_⟩
            have hDv3 : H' D = some (.lst vs) := s3.fr D _ hDv nD
            have sD3 : S3 D = none := s3.gs D (by rw [hDv]; simp) nD sD2
            -- the test
            cases qt : evt T.F ca (env2.set i (some (.val d))) with
            | none => rw [qt] at hcl; cases hcl
            | some rt =>
              rw [qt] at hcl
              refine ⟨S3, O2, _, rt, ⟨_, E4⟩, qt, ?_⟩
              cases rt with
              | exc c e => cases hcl
              | ok b e4 =>
                intro S5 O5 H5 s5 ⟨fp5, hE5⟩
                have hDv5 : H5 D = some (.lst vs) := s5.fr D _ hDv3 nD
                have sD5 : S5 D = none := s5.gs D (by rw [hDv3]; simp) nD sD3
                have nD5 : ¬ O5 D := fun z => (s5.go D z).elim nD fun z => by rw [hDv3] at z; cases z
                have ss5 : Step S1 O1 H1 S5 (fun a => O5 a ∨ a = D) H5 := (s2.trans (s3.add (by rw [hDv]; simp))).trans (s5.add (by rw [hDv3]; simp))
                have hset : ((wipe σ [i]).set i (some x)).set i none = σ.set i none := by
                  show ((σ.set i none).set i (some x)).set i none = σ.set i none
                  rw [List.set_set, List.set_set]
                cases b with
                | false =>
                  rw [if_neg Bool.false_ne_true]
                  have E6 := hE5.forget i none (okp ok)
                  rw [hset] at E6
                  exact ⟨S5, O5, e4.set i none, acc, vs, ss5, ⟨_, E6⟩, nD5, hDv5, sD5, racc.mono (s3.trans s5).ss, hcl⟩
                | true =>
                  rw [if_pos rfl]
                  simp only at hcl
                  split at hcl
                  · rename_i dv e6 qe
                    split at hcl
                    · rename_i hz
                      refine ⟨S5, O5, e4, _, ⟨_, hE5⟩, qe, fun S7 O7 H7 y s7 ⟨fp7, hE7, ry⟩ => ?_⟩
                      have hDv7 : H7 D = some (.lst vs) := s7.fr D _ hDv5 nD5
                      have sD7 : S7 D = none := s7.gs D (by rw [hDv5]; simp) nD5 sD5
                      have nD7 : ¬ O7 D := fun z => (s7.go D z).elim nD5 fun z => by rw [hDv5] at z; cases z
                      have racc7 := racc.mono ((s3.trans s5).trans s7).ss
                      refine ⟨vs, hDv7, by rw [line_eq, racc7.length]; exact hz, ?_⟩
                      have E8 := hE7.forget i none (okp ok)
                      rw [hset] at E8
                      have up : ∀ a o, a ≠ D → H7 a = some o → upd H7 D (.lst (vs ++ [y])) a = some o := fun a o n e => by rw [upd_ne n]; exact e
                      have upn : ∀ a, H7 a ≠ none → upd H7 D (.lst (vs ++ [y])) a ≠ none := fun a n => by
                        by_cases z : a = D
                        · subst z; rw [upd_same]; simp
                        · rw [upd_ne z]; exact n
                      have nS : ∀ a o, S7 a = some o → a ≠ D := fun a o e z => by rw [z, sD7] at e; cases e
                      refine ⟨S7, O7, e6.set i none, acc ++ [dv], vs ++ [y], (ss5.trans (s7.add (by rw [hDv5]; simp))).trans ⟨Sub.refl S7, fun a o e n => up a o (fun z => n (.inr z)) e, fun _ _ _ z => z, fun _ z => .inl z, upn⟩,
                        ⟨_, E8.other (Sub.refl S7) (fun a o e => up a o (nS a o e) (E8.sub a o e)) (fun j a o ha e => up a o (fun z => nD7 (by rw [← z]; exact E8.ow j a ha)) e) E8.ow fun a z => ⟨(E8.out a z).1, upn a (E8.out a z).2⟩⟩, nD7, upd_same, sD7, racc7.snoc ry, hcl⟩
                    · cases hcl
                  · cases hcl
          · have e : k = ds.length := by omega
            subst e
            refine .inl ⟨(w.mono s2.ss).stops H2 sub2, ?_⟩
            rw [List.drop_length] at hcl
            simp only [compL] at hcl
            cases hcl
            obtain ⟨fp2, hE2⟩ := st2
            have E3 := (hE1.restore (i := i) hE2 s2.ss)
            refine post S2 _ H2 _ (s1.trans s2) ⟨_, E3.other (Sub.refl S2) E3.sub (fun _ _ _ _ e => e) (fun j a z => .inl (E3.ow j a z)) (fun a z => ?_), [D], .lst hDv racc, fun a ha => ?_⟩
            · rcases z with z | z
              · exact E3.out a z
              · subst z; exact ⟨sD2, by rw [hDv]; simp⟩
            · have e : a = D := by simpa using ha
              subst e
              exact ⟨.inr rfl, fun j hj => nD (E3.ow j a hj)⟩
      · cases hr
theorem pe_ecomp {elt iter : Expr} {ifs : List Expr} {scope : Scope} {x : Str} {px pos : Pos} {i : Nat} {it : It} {ea : E} {ca : Te} (hc : X.calm = true) (hN : X.N.Nodup) (hi : PI X (.Name x px) iter (tI W T it)) (ok : BlkOk X.N X.env.scope scope [(x, i)])
    (hg : ∀ (s : Shared) (H : Hp) (C : Addr) (cl : List (Str × Addr)) (fp : List Addr), PG (X.blk s H scope (compEnvC scope cl C X.env) fp) (.Name x px) (gName i)) (ht : ∀ (s : Shared) (H : Hp) (C : Addr) (cl : List (Str × Addr)) (fp : List Addr), PTs (X.blk s H scope (compEnvC scope cl C X.env) fp) ifs (tT W0 T ca))
    (he : ∀ (s : Shared) (H : Hp) (C : Addr) (cl : List (Str × Addr)) (fp : List Addr), PE (X.blk s H scope (compEnvC scope cl C X.env) fp) elt (tE W0 T ea)) (hp : plainE iter = true) :
    PE X (.ListComp elt [⟨.Name x px, iter, ifs, 0⟩] scope pos) (tE W T (.comp ea i it ca)) :=
  (pe_lc hc hN hi ok hg ht (fun s H C cl fp => pe_o (he s H C cl fp)) (fold_of hp _)).wk fun σ H Q h => lc_wk h
end
end Fin
/-! Fin 11: statements of the text do what ex says. -/
namespace Fin
open PySem PySem.Spec PyProof.Rows L2
def PostS (T : Tbl) (W : WX) (S : Hp) (O : Addr → Prop) (H : Hp) (E : Ends) : Out → Prop
  | .nx env => ∀ S' O' H' σ', Step S O H S' O' H' → St0 T S' O' H' σ' env → E.nx σ' H'
  | .bk env => ∀ S' O' H' σ', Step S O H S' O' H' → St0 T S' O' H' σ' env → E.bk σ' H'
  | .ct env => ∀ S' O' H' σ', Step S O H S' O' H' → St0 T S' O' H' σ' env → E.ct σ' H'
  | .rt v env => ∀ S' O' H' σ' x, Step S O H S' O' H' → StV T S' O' H' σ' env x v → E.rt x H'
  | .exc c env => ∀ S' O' H' σ', Step S O H S' O' H' → St0 T S' O' H' σ' env → W (T.cls c) none σ' H'
theorem PostS.step {T : Tbl} {W : WX} {S S1 H H1 : Hp} {O O1 : Addr → Prop} {E : Ends} {r : Out} (s : Step S O H S1 O1 H1) (p : PostS T W S O H E r) : PostS T W S1 O1 H1 E r := by
  cases r with
  | nx env => exact fun S' O' H' σ' s' h => p S' O' H' σ' (s.trans s') h
  | bk env => exact fun S' O' H' σ' s' h => p S' O' H' σ' (s.trans s') h
  | ct env => exact fun S' O' H' σ' s' h => p S' O' H' σ' (s.trans s') h
  | rt v env => exact fun S' O' H' σ' x s' h => p S' O' H' σ' x (s.trans s') h
  | exc c env => exact fun S' O' H' σ' s' h => p S' O' H' σ' (s.trans s') h
def tS (W : WX) (T : Tbl) (n : Nat) (s : S) : TS := fun E σ H => ∃ S O env r, St0 T S O H σ env ∧ ex T.F n s env = some r ∧ PostS T W S O H E r
theorem StV.st {T : Tbl} {S H : Hp} {O : Addr → Prop} {σ : L2.St} {env : Env} {x : V} {v : Val} (h : StV T S O H σ env x v) : St0 T S O H σ env := let ⟨fp, e, _⟩ := h; ⟨fp, e⟩
theorem opv_of {T : Tbl} {S H : Hp} {O : Addr → Prop} {σ : L2.St} {env e0 : Env} {x : V} {v : Val} {ea : E} (q : Res.o (ev T.F ea e0) = some (.ok v env)) (h : StV T S O H σ env x v) : OpV T.K σ S x v := by
  obtain ⟨fp, hE, hv⟩ := h
  cases v with
  | d d => exact hv
  | sl i => exact hv
  | fr c => exact (ro_fr q).elim
section
variable {X : Cx} {T : Tbl} {W : WX} {S H : Hp} {O : Addr → Prop} {σ : L2.St} {env : Env} {n : Nat} {pos : Pos} {E : Ends}
theorem ps_epass : PS X (.Pass pos) (tS W T n .pass) := ps_pass.wk fun E σ H h => by
  obtain ⟨S, O, env, r, st, hr, post⟩ := h
  simp only [ex] at hr
  cases hr
  exact post S O H σ .refl st
theorem pss_eone {st : Stmt} {s : Fin.S} (h : PS X st (tS W T n s)) : PSs X [st] (tS W T n s) := pss_one h
theorem pss_enil : PSs X [] (tS W T n .pass) := pss_nil.wk fun E σ H h => by
  obtain ⟨S, O, env, r, st, hr, post⟩ := h
  simp only [ex] at hr
  cases hr
  exact post S O H σ .refl st
theorem pss_econs {st : Stmt} {rest : List Stmt} {a b : Fin.S} (h1 : PS X st (tS W T n a)) (h2 : PSs X rest (tS W T n b)) : PSs X (st :: rest) (tS W T n (.seq a b)) := by
  refine (pss_cons h1 h2).wk fun E σ H h => ?_
  obtain ⟨S, O, env, r, st, hr, post⟩ := h
  simp only [ex] at hr
  cases q : ex T.F n a env with
  | none => rw [q] at hr; cases hr
  | some r1 =>
    rw [q] at hr
    refine ⟨S, O, env, r1, st, q, ?_⟩
    cases r1 with
    | nx e1 => exact fun S1 O1 H1 σ1 s1 st1 => ⟨S1, O1, e1, r, st1, hr, post.step s1⟩
    | bk e1 => cases hr; exact post
    | ct e1 => cases hr; exact post
    | rt v e1 => cases hr; exact post
    | exc c e1 => cases hr; exact post
theorem ps_eexpr {e : Expr} {ea : Fin.E} (h : PE X e (tE W T ea)) (hp : noComp e = true) : PS X (.Expr e pos) (tS W T n (.expr ea)) := by
  refine (ps_expr h (swap_of hp _ _ _)).wk fun E σ H h => ?_
  obtain ⟨S, O, env, r, st, hr, post⟩ := h
  simp only [ex] at hr
  cases q : ev T.F ea env with
  | none => rw [q] at hr; cases hr
  | some r1 =>
    rw [q] at hr
    refine ⟨S, O, env, r1, st, q, ?_⟩
    cases r1 with
    | ok v e1 => cases hr; exact fun S1 O1 H1 x s1 sv => post S1 O1 H1 σ s1 sv.st
    | exc c e1 => cases hr; exact fun S1 O1 H1 s1 st1 => post S1 O1 H1 σ s1 st1
theorem set_wk {ea : Fin.E} {i : Nat} (h : tS W T n (.set i ea) E σ H) : tAsg (tE W T ea) (gName i) E σ H := by
  obtain ⟨S, O, env, r, st, hr, post⟩ := h
  simp only [ex] at hr
  cases q : ev T.F ea env with
  | none => rw [q] at hr; cases hr
  | some r1 =>
    rw [q] at hr
    refine ⟨S, O, env, r1, st, q, ?_⟩
    cases r1 with
    | exc c e1 => cases hr; exact fun S1 O1 H1 s1 st1 => post S1 O1 H1 σ s1 st1
    | ok v e1 =>
      intro S1 O1 H1 x s1 ⟨fp, hE, hv⟩
      cases v with
      | d d =>
        simp only at hr
        split at hr
        case isFalse => cases hr
        rename_i ok
        cases hr
        exact post S1 O1 H1 _ s1 ⟨_, hE.store (i := i) (okp ok) (.val hv) (fun _ z => by simp at z) fun _ z => by simp at z⟩
      | fr c =>
        simp only at hr
        split at hr
        case isFalse => cases hr
        rename_i ok
        cases hr
        obtain ⟨fx, hc, ho⟩ := hv
        exact post S1 O1 H1 _ s1 ⟨_, hE.store (i := i) (okp ok) hc (fun a ha => (ho a ha).1) fun a ha j _ => (ho a ha).2 j⟩
      | sl j =>
        simp only at hr
        split at hr
        · rename_i e2 d hf hd
          split at hr
          case isFalse => cases hr
          rename_i ok
          cases hr
          obtain ⟨S2, O2, s2, ⟨fp2, hE2⟩, rp⟩ := frz1 (v := .sl j) ⟨fp, hE⟩ hv hf hd
          exact post S2 O2 H1 _ (s1.trans s2) ⟨_, hE2.store (i := i) (okp ok) (.val rp) (fun _ z => by simp at z) fun _ z => by simp at z⟩
        · cases hr
theorem ps_eset {i : Nat} {x : Str} {e : Expr} {ea : Fin.E} {px : Pos} (hN : X.N.Nodup) (hi : X.N[i]? = some x) (hx : Loc X.env.scope x) (hf : X.fn x = true ∨ X.env.scope.names.lookup x = some .local) (h : PE X e (tE W T ea)) (hp : noComp e = true) :
    PS X (.Assign [.Name x px] e pos) (tS W T n (.set i ea)) := (ps_set hN hi hx h (swap_of hp _ _ _) hf).wk fun E σ H h => set_wk h
theorem ps_esetc {j : Nat} {y : Str} {py spos : Pos} {elt iter : Expr} {ifs : List Expr} {scope : Scope} {x : Str} {px : Pos} {i : Nat} {it : It} {ea : Fin.E} {ca : Te} (hc : X.calm = true) (hN : X.N.Nodup) (hy : X.N[j]? = some y) (hyl : X.env.scope.names.lookup y = some .local)
    (hk : X.env.scope.kind = .function) (hl : (py.line == pos.line) = true) (hsc : (scope.names.any fun (n, k) => n == y && (k == .local || k == .cell)) = false)
    (hi : PI X (.Name x px) iter (tI W T it)) (ok : BlkOk X.N X.env.scope scope [(x, i)])
    (hg : ∀ (s : Shared) (H : Hp) (C : Addr) (cl : List (Str × Addr)) (fp : List Addr), PG (X.blk s H scope (compEnvC scope cl C X.env) fp) (.Name x px) (gName i)) (ht : ∀ (s : Shared) (H : Hp) (C : Addr) (cl : List (Str × Addr)) (fp : List Addr), PTs (X.blk s H scope (compEnvC scope cl C X.env) fp) ifs (tT W0 T ca))
    (he : ∀ (s : Shared) (H : Hp) (C : Addr) (cl : List (Str × Addr)) (fp : List Addr), PE (X.blk s H scope (compEnvC scope cl C X.env) fp) elt (tE W0 T ea)) (hp : plainE iter = true) :
    PS X (.Assign [.Name y py] (.ListComp elt [⟨.Name x px, iter, ifs, 0⟩] scope pos) spos) (tS W T n (.set j (.comp ea i it ca))) :=
  (ps_setLc hc hN hy hyl (sw_true hk hyl hl hsc) hi ok hg ht (fun s H C cl fp => pe_o (he s H C cl fp)) (fold_of hp _)).wk fun E σ H h => lc_wk (set_wk h)
theorem ps_eret {e : Expr} {ea : Fin.E} (h : PE X e (tE W T ea)) : PS X (.Return (some e) pos) (tS W T n (.ret ea)) := by
  refine (ps_ret h).wk fun E σ H h => ?_
  obtain ⟨S, O, env, r, st, hr, post⟩ := h
  simp only [ex] at hr
  cases q : ev T.F ea env with
  | none => rw [q] at hr; cases hr
  | some r1 =>
    rw [q] at hr
    refine ⟨S, O, env, r1, st, q, ?_⟩
    cases r1 with
    | exc c e1 => cases hr; exact fun S1 O1 H1 s1 st1 => post S1 O1 H1 σ s1 st1
    | ok v e1 => cases hr; exact fun S1 O1 H1 x s1 sv => post S1 O1 H1 σ x s1 sv
theorem ps_eretN : PS X (.Return none pos) (tS W T n .retN) := ps_retN.wk fun E σ H h => by
  obtain ⟨S, O, env, r, ⟨fp, hE⟩, hr, post⟩ := h
  simp only [ex] at hr
  cases hr
  exact post S O H σ .non .refl ⟨fp, hE, .non⟩
theorem ps_ebrk : PS X (.Break pos) (tS W T n .brk) := ps_break.wk fun E σ H h => by
  obtain ⟨S, O, env, r, st, hr, post⟩ := h
  simp only [ex] at hr
  cases hr
  exact post S O H σ .refl st
theorem ps_ecnt : PS X (.Continue pos) (tS W T n .cnt) := ps_continue.wk fun E σ H h => by
  obtain ⟨S, O, env, r, st, hr, post⟩ := h
  simp only [ex] at hr
  cases hr
  exact post S O H σ .refl st
theorem ps_eif {c : Expr} {a b : List Stmt} {ca : Te} {sa sb : Fin.S} (hc : PT X c (tT W T ca)) (ha : PSs X a (tS W T n sa)) (hb : PSs X b (tS W T n sb)) : PS X (.If c a b pos) (tS W T n (.ite ca sa sb)) := by
  refine (ps_if hc ha hb).wk fun E σ H h => ?_
  obtain ⟨S, O, env, r, st, hr, post⟩ := h
  simp only [ex] at hr
  cases q : evt T.F ca env with
  | none => rw [q] at hr; cases hr
  | some r1 =>
    rw [q] at hr
    refine ⟨S, O, env, r1, st, q, ?_⟩
    cases r1 with
    | exc c e1 => cases hr; exact fun S1 O1 H1 s1 st1 => post S1 O1 H1 σ s1 st1
    | ok b e1 =>
      intro S1 O1 H1 s1 st1
      cases b with
      | true => rw [if_pos rfl]; exact ⟨S1, O1, e1, r, st1, hr, post.step s1⟩
      | false => rw [if_neg Bool.false_ne_true]; exact ⟨S1, O1, e1, r, st1, hr, post.step s1⟩
theorem ps_ewhl {c : Expr} {b : List Stmt} {ca : Te} {sb : Fin.S} (hp : PassesOwn (model X.prog X.w) X.A X.env X.xe) (hc : PT X c (tT W T ca)) (hb : PSs X b (tS W T n sb)) : PS X (.While c b [] pos) (tS W T n (.whl ca sb)) := by
  refine (ps_while hp hc hb).wk fun E σ H h => ?_
  obtain ⟨S, O, env, r, st, hr, post⟩ := h
  simp only [ex] at hr
  refine ⟨fun m σ' H' => ∃ S' O' env', Step S O H S' O' H' ∧ St0 T S' O' H' σ' env' ∧ whlL (evt T.F ca) (ex T.F n sb) m env' = some r, ⟨n, S, O, env, .refl, st, hr⟩, fun m σ1 H1 w => ?_⟩
  obtain ⟨S1, O1, e1, s1, st1, hw⟩ := w
  cases m with
  | zero => simp [whlL] at hw
  | succ m =>
    simp only [whlL] at hw
    cases q : evt T.F ca e1 with
    | none => rw [q] at hw; cases hw
    | some r1 =>
      rw [q] at hw
      refine ⟨S1, O1, e1, r1, st1, q, ?_⟩
      cases r1 with
      | exc c e2 => cases hw; exact fun S2 O2 H2 s2 st2 => post S2 O2 H2 σ1 (s1.trans s2) st2
      | ok b e2 =>
        intro S2 O2 H2 s2 st2
        cases b with
        | false => cases hw; rw [if_neg Bool.false_ne_true]; exact post S2 O2 H2 σ1 (s1.trans s2) st2
        | true =>
          rw [if_pos rfl]
          simp only at hw
          refine ⟨fun σ' H' => ∃ S' O' env', Step S O H S' O' H' ∧ St0 T S' O' H' σ' env' ∧ whlL (evt T.F ca) (ex T.F n sb) m env' = some r, fun σ' H' h => ⟨m, Nat.lt_succ_self m, h⟩, ?_⟩
          cases q2 : ex T.F n sb e2 with
          | none => rw [q2] at hw; cases hw
          | some r2 =>
            rw [q2] at hw
            refine ⟨S2, O2, e2, r2, st2, q2, ?_⟩
            cases r2 with
            | nx e3 => exact fun S3 O3 H3 σ3 s3 st3 => ⟨S3, O3, e3, (s1.trans s2).trans s3, st3, hw⟩
            | ct e3 => exact fun S3 O3 H3 σ3 s3 st3 => ⟨S3, O3, e3, (s1.trans s2).trans s3, st3, hw⟩
            | bk e3 => cases hw; exact fun S3 O3 H3 σ3 s3 st3 => post S3 O3 H3 σ3 ((s1.trans s2).trans s3) st3
            | rt v e3 => cases hw; exact fun S3 O3 H3 σ3 x s3 sv => post S3 O3 H3 σ3 x ((s1.trans s2).trans s3) sv
            | exc c e3 => cases hw; exact fun S3 O3 H3 σ3 s3 st3 => post S3 O3 H3 σ3 ((s1.trans s2).trans s3) st3
theorem ps_efor {K : PySem.W.Frag} {t : Tg} {tg iter : Expr} {b : List Stmt} {it : It} {sb : Fin.S} (hK : T.K = K) (hp : PassesOwn (model X.prog X.w) X.A X.env X.xe) (hc : X.calm = true) (hi : PI X tg iter (tI W T it)) (hg : PG X tg (gOf K t)) (hb : PSs X b (tS W T n sb)) (hpl : plainE iter = true) :
    PS X (.For tg iter b [] pos) (tS W T n (.for_ t it sb)) := by
  refine (ps_for hp hc hi hg hb (fold_of hpl _)).wk fun E σ H h => ?_
  obtain ⟨S, O, env, r, st, hr, post⟩ := h
  simp only [ex] at hr
  cases q : evi T.F it env with
  | none => rw [q] at hr; cases hr
  | some r1 =>
    rw [q] at hr
    refine ⟨S, O, env, r1, st, q, ?_⟩
    cases r1 with
    | exc c e1 => cases hr; exact fun S1 O1 H1 s1 st1 => post S1 O1 H1 σ s1 st1
    | ok ds e1 =>
      intro S1 O1 H1 J s1 st1 w
      simp only at hr
      refine ⟨fun k m σ' H' => m = ds.length - k ∧ k ≤ ds.length ∧ ∃ S' O' env', Step S1 O1 H1 S' O' H' ∧ St0 T S' O' H' σ' env' ∧ forL T.F t (ex T.F n sb) (ds.drop k) env' = some r,
        ⟨ds.length, by simp, Nat.zero_le _, S1, O1, e1, .refl, st1, hr⟩, ?_⟩
      rintro k m σ2 H2 ⟨rfl, hk, S2, O2, e2, s2, st2, hf⟩
      by_cases hlt : k < ds.length
      · refine .inr ⟨(w.mono s2.ss).goes k H2 hlt st2.sub, fun σ' H' => ∃ S' O' env', Step S1 O1 H1 S' O' H' ∧ St0 T S' O' H' σ' env' ∧ forL T.F t (ex T.F n sb) (ds.drop (k + 1)) env' = some r, fun σ' H' h => ⟨ds.length - (k + 1), by omega, rfl, hlt, h⟩, fun x H' hy => ?_⟩
        obtain ⟨d, hd, gv⟩ := (w.mono s2.ss).yields k H2 x H' hlt st2.sub hy
        rw [List.drop_eq_getElem_cons hlt] at hf
        have hdd : ds[k] = d := by
          rw [List.getElem?_eq_getElem hlt] at hd
          exact Option.some.inj hd
        rw [hdd] at hf
        simp only [forL] at hf
        split at hf
        · rename_i e3 hb
          refine tgt_red hK st2 gv hb fun S3 σ3 s3 st3 => ?_
          cases q2 : ex T.F n sb e3 with
          | none => rw [q2] at hf; cases hf
          | some r2 =>
            rw [q2] at hf
            refine ⟨S3, O2, e3, r2, st3, q2, ?_⟩
            cases r2 with
            | nx e4 => exact fun S4 O4 H4 σ4 s4 st4 => ⟨S4, O4, e4, (s2.trans s3).trans s4, st4, hf⟩
            | ct e4 => exact fun S4 O4 H4 σ4 s4 st4 => ⟨S4, O4, e4, (s2.trans s3).trans s4, st4, hf⟩
            | bk e4 => cases hf; exact fun S4 O4 H4 σ4 s4 st4 => post S4 O4 H4 σ4 (s1.trans ((s2.trans s3).trans s4)) st4
            | rt v e4 => cases hf; exact fun S4 O4 H4 σ4 x s4 sv => post S4 O4 H4 σ4 x (s1.trans ((s2.trans s3).trans s4)) sv
            | exc c e4 => cases hf; exact fun S4 O4 H4 σ4 s4 st4 => post S4 O4 H4 σ4 (s1.trans ((s2.trans s3).trans s4)) st4
        · cases hf
      · have e : k = ds.length := by omega
        subst e
        rw [List.drop_length] at hf
        simp only [forL] at hf
        cases hf
        exact .inl ⟨(w.mono s2.ss).stops H2 st2.sub, post S2 O2 H2 σ2 (s1.trans s2) st2⟩
theorem ps_eunp {tg e : Expr} {is : List Nat} {ea : Fin.E} (hK : T.K = X.K) (h : PE X e (tE W T ea)) (hg : PG X tg (gTup X.K is.length (gAll is))) (hs : swapsWithSole [tg] e pos.line X.env = pure false) (hw : swappedStores [tg] e X.env = pure none) (h1 : (assignEach [tg] X.env).map (·.2) = [assign tg X.env]) :
    PS X (.Assign [tg] e pos) (tS W T n (.unp is ea)) := by
  refine (ps_asg (pe_o h) hg hs hw h1).wk fun E σ H h => ?_
  obtain ⟨S, O, env, r, st, hr, post⟩ := h
  simp only [ex] at hr
  cases q : Res.o (ev T.F ea env) with
  | none => rw [q] at hr; cases hr
  | some r1 =>
    rw [q] at hr
    refine ⟨S, O, env, r1, st, q, ?_⟩
    cases r1 with
    | exc c e1 => cases hr; exact fun S1 O1 H1 s1 st1 => post S1 O1 H1 σ s1 st1
    | ok v e1 =>
      intro S1 O1 H1 x s1 sv
      have ov := opv_of q sv
      simp only at hr
      split at hr
      · rename_i e2 ds hf hd
        split at hr
        · rename_i hl
          obtain ⟨S2, O2, s2, st2, rp⟩ := frz1 sv.st ov hf hd
          cases hb : bindL T.F is ds e2 with
          | none => rw [hb] at hr; cases hr
          | some e3 =>
            rw [hb] at hr
            cases hr
            cases rp with
            | @tup a xs _ ea rr =>
              exact ⟨a, xs, rfl, hK ▸ sqT_sub st2.sub ea, by rw [rr.length]; exact hl, gAll_red st2 rr hb fun σ' st3 => post S2 O2 H1 σ' (s1.trans s2) st3⟩
        · cases hr
      · cases hr
theorem ps_epar {i j : Nat} {x y : Str} {a b : Expr} {aa ab : Fin.E} {px py pt : Pos} {kt k2 : Nat} {pt2 : Pos} (hc : X.calm = true) (hN : X.N.Nodup) (hi : X.N[i]? = some x) (hj : X.N[j]? = some y) (hij : i ≠ j)
    (hx : X.env.scope.names.lookup x = some .local) (hy : X.env.scope.names.lookup y = some .local) (ha : PA X [a, b] (tA W T (.cons aa (.cons ab .nil))))
    (hw : swappedStores [.Tuple [.Name x px, .Name y py] kt pt] (.Tuple [a, b] k2 pt2) X.env = pure (some [x, y])) (hs : swapsWithSole [.Tuple [.Name x px, .Name y py] kt pt] (.Tuple [a, b] k2 pt2) pos.line X.env = pure false) :
    PS X (.Assign [.Tuple [.Name x px, .Name y py] kt pt] (.Tuple [a, b] k2 pt2) pos) (tS W T n (.par i j aa ab)) := by
  refine (ps_par hc hN hi hj hij hx hy ha hw hs).wk fun E σ H h => ?_
  obtain ⟨S, O, env, r, st, hr, post⟩ := h
  simp only [ex] at hr
  cases q : evs T.F (.cons aa (.cons ab .nil)) env with
  | none => rw [q] at hr; cases hr
  | some r1 =>
    rw [q] at hr
    refine ⟨S, O, env, r1, st, q, ?_⟩
    cases r1 with
    | exc c e1 => cases hr; exact fun S1 O1 H1 s1 st1 => post S1 O1 H1 σ s1 st1
    | ok vs e1 =>
      intro S1 O1 H1 xs s1 st1 ov
      simp only at hr
      split at hr
      · rename_i e2 dx dy hf hd
        split at hr
        case isFalse => cases hr
        rename_i ok
        obtain ⟨ok1, ok2⟩ := Bool.and_eq_true_iff.mp ok
        cases hr
        obtain ⟨S2, O2, s2, ⟨fp2, hE2⟩, k⟩ := frz_of st1 ov hf
        cases k _ hd with
        | cons r1 rr =>
          cases rr with
          | cons r2 rr =>
            cases rr
            exact ⟨_, _, rfl, post S2 O2 H1 _ (s1.trans s2) ⟨_, (hE2.store (i := i) (okp ok1) (.val r1) (fun _ z => by simp at z) fun _ z => by simp at z).store (i := j) (okp ok2) (.val r2) (fun _ z => by simp at z) fun _ z => by simp at z⟩⟩
      · cases hr

/-! ### x op= e -/
def ipR (op : Operator) : TIp := match op with
  | .Add => fun x y H Q => (rI0 fun i j => .int (i + j)) x y H Q ∨ (∃ i j, x = .str i ∧ y = .str j ∧ i.length + j.length ≤ sizeLine ∧ Q (.str (i ++ j)) H)
  | .Sub => rI0 fun i j => .int (i - j)
  | .Mult => rI CMul fun i j => .int (i * j)
  | .BitAnd => rI0 fun i j => .int (Builtin.bitAnd i j)
  | .BitOr => rI0 fun i j => .int (Builtin.bitOr i j)
  | .BitXor => rI0 fun i j => .int (Builtin.bitXor i j)
  | .LShift => rI CPow fun i j => .int (i * 2 ^ j.toNat)
  | .RShift => rI (fun _ j => 0 ≤ j) fun i j => .int (i / 2 ^ j.toNat)
  | _ => fun _ _ _ _ => False
def ipOk : Operator → Bool
  | .Add | .Sub | .Mult | .BitAnd | .BitOr | .BitXor | .LShift | .RShift => true
  | _ => false
theorem ip_ok (op : Operator) : PIp X op (ipR op) := by
  cases op with
  | Add => exact OpR.or iop_add iop_add_str
  | Sub => exact iop_sub
  | Mult => exact iop_mul
  | BitAnd => exact iop_and
  | BitOr => exact iop_or
  | BitXor => exact iop_xor
  | LShift => exact iop_shl
  | RShift => exact iop_shr
  | _ => exact fun _ _ _ _ _ _ _ _ _ _ _ _ h => h.elim
theorem ip_red {op : Operator} {vx vy : V} {dx dy z : D} {Q : VK} (hop : ipOk op = true) (hx : Rp T.K S vx dx) (hy : Vw T.K S H vy dy) (hb : binD op dx dy = some (.d z)) (hz : scalD z = true) (f : ∀ v, Rp T.K S v z → Q v H) : ipR op vx vy H Q := by
  unfold binD at hb
  split at hb
  · rename_i i j
    cases hx
    cases hy.int
    unfold binI at hb
    split at hb
    · cases hb; exact .inl ⟨i, j, rfl, rfl, f _ (.int _)⟩
    · cases hb; exact ⟨i, j, rfl, rfl, f _ (.int _)⟩
    · split at hb
      · rename_i q
        cases hb
        exact ⟨i, j, rfl, rfl, (by simpa [mulOk, CMul] using q), f _ (.int _)⟩
      · cases hb
    · cases hop
    · cases hop
    · cases hop
    · split at hb
      · rename_i q
        cases hb
        exact ⟨i, j, rfl, rfl, (by simpa [powOk, CPow] using q), f _ (.int _)⟩
      · cases hb
    · split at hb
      · rename_i q
        cases hb
        exact ⟨i, j, rfl, rfl, of_decide_eq_true q, f _ (.int _)⟩
      · cases hb
    · cases hb; exact ⟨i, j, rfl, rfl, f _ (.int _)⟩
    · cases hb; exact ⟨i, j, rfl, rfl, f _ (.int _)⟩
    · cases hb; exact ⟨i, j, rfl, rfl, f _ (.int _)⟩
    · cases hb
  · rename_i a b
    cases hx
    cases hy.str
    split at hb
    · split at hb
      · rename_i q
        cases hb
        exact .inr ⟨a, b, rfl, rfl, by rw [line_eq]; exact q, f _ (.str _)⟩
      · cases hb
    · cases hb
  · split at hb
    · split at hb <;> cases hb
    · cases hb
  · split at hb
    · split at hb <;> cases hb
    · cases hb
  · cases hb
theorem ps_eaug {i : Nat} {x : Str} {e : Expr} {ea : Fin.E} {op : Operator} {px : Pos} (hop : ipOk op = true) (hN : X.N.Nodup) (hi : X.N[i]? = some x) (hx : Loc X.env.scope x) (hf : X.fn x = true ∨ X.env.scope.names.lookup x = some .local) (h : PE X e (tE W T ea)) :
    PS X (.AugAssign (.Name x px) op e pos) (tS W T n (.aug i op ea)) := by
  refine (ps_aug hN hi hx (pe_o h) (ip_ok op) hf).wk fun E σ H h => ?_
  obtain ⟨S, O, env, r, ⟨fp, hE⟩, hr, post⟩ := h
  simp only [ex] at hr
  split at hr
  · rename_i dx e0
    obtain ⟨v0, g0, rc⟩ := hE.at_ i _ e0
    have rx : Rp T.K S v0 dx := by
      generalize fp i = fi at rc
      cases rc with | val r => exact r
    refine ⟨v0, g0, ?_⟩
    cases q : Res.o (ev T.F ea env) with
    | none => rw [q] at hr; cases hr
    | some r1 =>
      rw [q] at hr
      refine ⟨S, O, env, r1, ⟨fp, hE⟩, q, ?_⟩
      cases r1 with
      | exc c e1 => cases hr; exact fun S1 O1 H1 s1 st1 => post S1 O1 H1 σ s1 st1
      | ok v e1 =>
        intro S1 O1 H1 y s1 sv
        have ov := opv_of q sv
        simp only at hr
        split at hr
        · rename_i dy hd
          split at hr
          · rename_i z hb
            split at hr
            · rename_i hz
              obtain ⟨hz, ok⟩ := Bool.and_eq_true_iff.mp hz
              cases hr
              obtain ⟨fp1, hE1⟩ := sv.st
              exact ip_red hop (rx.mono s1.ss) (vw_of ⟨fp1, hE1⟩ ov hd) hb hz fun w rw' => post S1 O1 H1 _ s1 ⟨_, hE1.store (i := i) (okp ok) (.val rw') (fun _ z => by simp at z) fun _ z => by simp at z⟩
            · cases hr
          · cases hr
        · cases hr
  · cases hr
end
end Fin
/-! Fin 12: x[k] = v, raise, try. -/
namespace Fin
open PySem PySem.Spec PyProof.Rows L2
section
variable {X : Cx} {T : Tbl} {W : WX} {S H : Hp} {O : Addr → Prop} {σ : L2.St} {env : Env} {n : Nat} {pos : Pos} {E : Ends}
theorem kv_any {vs : List (Key × V)} {ys : List (Key × D)} (r : KvR T.K S vs ys) (k : Key) : (vs.any fun p => decide (p.1 = k)) = ys.any fun p => decide (p.1 = k) := by
  induction r with
  | nil => rfl
  | @cons p q l1 l2 h t ih => rw [List.any_cons, List.any_cons, ih, h.1]
theorem kv_map {vs : List (Key × V)} {ys : List (Key × D)} (r : KvR T.K S vs ys) (k : Key) {y : V} {d : D} (rp : Rp T.K S y d) : KvR T.K S (vs.map fun p => if p.1 = k then (p.1, y) else p) (ys.map fun p => if p.1 = k then (p.1, d) else p) := by
  induction r with
  | nil => exact .nil
  | @cons p q l1 l2 h t ih =>
    rw [List.map_cons, List.map_cons]
    refine .cons ?_ ih
    by_cases z : p.1 = k
    · rw [if_pos z, if_pos (h.1 ▸ z)]; exact ⟨h.1, rp⟩
    · rw [if_neg z, if_neg (by rw [← h.1]; exact z)]; exact h
theorem kv_snoc {vs : List (Key × V)} {ys : List (Key × D)} (r : KvR T.K S vs ys) (k : Key) {y : V} {d : D} (rp : Rp T.K S y d) : KvR T.K S (vs ++ [(k, y)]) (ys ++ [(k, d)]) := Paired.snoc r ⟨rfl, rp⟩
theorem kv_put {vs : List (Key × V)} {ys : List (Key × D)} (r : KvR T.K S vs ys) (k : Key) {y : V} {d : D} (rp : Rp T.K S y d) : KvR T.K S (putK vs k y) (putD ys k d) := by
  unfold putK putD
  rw [kv_any r k]
  split
  · exact kv_map r k rp
  · exact kv_snoc r k rp
theorem ps_esetIx {i : Nat} {x : Str} {k v : Expr} {ka va : Fin.E} {px p2 : Pos} (hu : X.A.units + 1 < cLine) (hN : X.N[i]? = some x) (hv : Vis X.env.scope x) (hd : (x == ("__debug__" : Str)) = false) (hcd : (x == ("__classdict__" : Str)) = false)
    (hk : PE X k (tE W T ka)) (hvv : PE X v (tE W T va)) (hpk : plainE k = true) (hpv : noComp v = true) : PS X (.Assign [.Subscript (.Name x px) k p2] v pos) (tS W T n (.setIx i ka va)) := by
  have hnm : PE X (.Name x px) (tVar i) := pe_var hN hv hd hcd
  have hasg : ∀ vv, assign (.Subscript (.Name x px) k p2) X.env vv = (do
      let ov ← holding [vv] (eval (.Name x px) X.env)
      let iv ← holding [vv, ov] (eval k X.env)
      standAt p2
      holding [vv, ov, iv] (setItem ov iv vv)
      release [vv, ov, iv] []) := fun vv => by cases k <;> first | rfl | cases hpk
  have hnt : ∀ vv env, swappedStores [.Subscript (.Name x px) k p2] vv env = pure none := fun vv env => by cases vv <;> rfl
  refine ((ps_asg (pe_o hvv) (pg_sub hnm (pe_o hk) set_list hasg) (show swapsWithSole [.Subscript (.Name x px) k p2] v pos.line X.env = pure false from swap_of hpv (some (.Subscript (.Name x px) k p2)) pos.line X.env) (hnt _ _) rfl).or (ps_dput hu hnm (pe_o hk) (pe_o hvv) (swap_of hpv _ _ _))).wk fun E σ H h => ?_
  obtain ⟨S, O, env, r, st, hr, post⟩ := h
  simp only [ex] at hr
  cases q : Res.o (ev T.F va env) with
  | none => rw [q] at hr; cases hr
  | some r1 =>
    rw [q] at hr
    cases r1 with
    | exc c e1 => cases hr; exact .inl ⟨S, O, env, _, st, q, fun S1 O1 H1 s1 st1 => post S1 O1 H1 σ s1 st1⟩
    | ok w e1 =>
      simp only at hr
      split at hr
      · rename_i e2 dv hf hdv
        -- behind the value, frozen
        have go : ∀ {R : V → Hp → Prop}, (∀ S2 O2 H1 y, Step S O H S2 O2 H1 → St0 T S2 O2 H1 σ e2 → Rp T.K S2 y dv → R y H1) → tO W T va σ H R := fun {R} k => ⟨S, O, env, _, st, q, fun S1 O1 H1 y s1 sv => by
          obtain ⟨S2, O2, s2, st2, rp⟩ := frz1 sv.st (opv_of q sv) hf hdv
          exact k S2 O2 H1 y (s1.trans s2) st2 rp⟩
        split at hr
        case isFalse => cases hr
        rename_i hown
        have slot : ∀ {S2 H1 : Hp} {O2 : Addr → Prop}, St0 T S2 O2 H1 σ e2 → ∃ v, σ[i]? = some (some v) := fun {S2 H1 O2} ⟨fp, hE⟩ => by
          cases e0 : e2[i]? with
          | none => rw [e0] at hown; simp [isOwn] at hown
          | some z =>
            rw [e0] at hown
            cases z with
            | none => simp [isOwn] at hown
            | some c0 => obtain ⟨v, g, _⟩ := hE.at_ i _ e0; exact ⟨v, g⟩
        cases q2 : Res.o (ev T.F ka e2) with
        | none => rw [q2] at hr; cases hr
        | some r2 =>
          rw [q2] at hr
          cases r2 with
          | exc c e3 =>
            cases hr
            refine .inl (go fun S2 O2 H1 y s2 st2 ry => ?_)
            obtain ⟨v, g⟩ := slot st2
            exact ⟨v, g, S2, O2, e2, _, st2, q2, fun S3 O3 H3 s3 st3 => post S3 O3 H3 σ (s2.trans s3) st3⟩
          | ok dk e3 =>
            cases dk with
            | sl _ => cases hr
            | fr _ => cases hr
            | d dk =>
              simp only at hr
              split at hr
              · rename_i c e4
                split at hr
                · rename_i c' hset
                  cases hr
                  unfold setC at hset
                  split at hset
                  · -- a list
                    rename_i xs ki
                    split at hset
                    · rename_i j hj
                      cases hset
                      refine .inl (go fun S2 O2 H1 y s2 st2 ry => ?_)
                      obtain ⟨v, g⟩ := slot st2
                      refine ⟨v, g, S2, O2, e2, _, st2, q2, fun S3 O3 H3 kx s3 sv3 => ?_⟩
                      obtain ⟨fp3, hE3, rk⟩ := sv3
                      cases (show Rp T.K S3 kx (.int ki) from rk)
                      obtain ⟨v', g2, rc⟩ := hE3.at_ i _ e4
                      rw [g] at g2
                      cases g2
                      have hv : ∃ a vs, v = .ref a ∧ H3 a = some (.lst vs) ∧ RpAll T.K S3 vs xs ∧ fp3 i = [a] := by
                        generalize fp3 i = fi at rc
                        cases rc with
                        | lst q r => exact ⟨_, _, rfl, q, r, rfl⟩
                      obtain ⟨a, vs, rfl, hH, rr, hfi⟩ := hv
                      obtain ⟨s4, E4⟩ := hE3.change (o := .lst (vs.set j y)) (c := .lst (xs.set j dv)) g hfi (.lst upd_same (rr.set (ry.mono s3.ss) j))
                      exact ⟨a, vs, ki, j, rfl, rfl, hH, by rw [rr.length]; exact hj, post S3 O3 _ σ ((s2.trans s3).trans s4) ⟨fp3, E4⟩⟩
                    · cases hset
                  · -- a dict
                    rename_i kvs
                    split at hset
                    · rename_i kk hkk
                      split at hset
                      · rename_i hz
                        cases hset
                        refine .inr (go fun S2 O2 H1 y s2 st2 ry => ?_)
                        obtain ⟨v, g⟩ := slot st2
                        refine ⟨v, g, S2, O2, e2, _, st2, q2, fun S3 O3 H3 kx s3 sv3 => ?_⟩
                        obtain ⟨fp3, hE3, rk⟩ := sv3
                        have ek := key_vw (H := H3) (.rp rk) hkk
                        subst ek
                        obtain ⟨v', g2, rc⟩ := hE3.at_ i _ e4
                        rw [g] at g2
                        cases g2
                        have hv : ∃ a vs, v = .ref a ∧ H3 a = some (.dK vs) ∧ KvR T.K S3 vs kvs ∧ fp3 i = [a] := by
                          generalize fp3 i = fi at rc
                          cases rc with
                          | dic q r => exact ⟨_, _, rfl, q, r, rfl⟩
                        obtain ⟨a, vs, rfl, hH, rr, hfi⟩ := hv
                        obtain ⟨s4, E4⟩ := hE3.change (o := .dK (putK vs kk y)) (c := .dic (putD kvs kk dv)) g hfi (.dic upd_same (kv_put rr kk (ry.mono s3.ss)))
                        exact ⟨a, _, rfl, DPut.k hH (by rw [line_eq, rr.length]; exact hz), post S3 O3 _ σ ((s2.trans s3).trans s4) ⟨fp3, E4⟩⟩
                      · cases hset
                    · cases hset
                  · cases hset
                · cases hr
              · cases hr
      · cases hr

/-! ### x[k] op= e, a list -/
theorem get_list : PGet X (rIxL X.K) := by
  intro pins s σ H x y v u Q I rx ry h
  obtain ⟨p, xs, i, z, rfl, rfl, hq, he, q⟩ := h
  cases rx
  obtain ⟨t, rfl⟩ := ry
  obtain ⟨its, r, pl, hz⟩ := I.list hq
  obtain ⟨j, h1, h2, h3, h4, h5⟩ := atI_get he
  obtain ⟨w, ew, rw'⟩ := r.get h2
  have hl := r.length
  have hn := line63
  have fin : EP X pins σ Q w s := ⟨z, H, I, rw', q⟩
  by_cases h0 : 0 ≤ i
  · have hj : i.toNat = j := by
      rw [seqIndex_of h0 h5] at h1
      exact Option.some.inj h1
    exact wpAny_getItem_list pl.isList h0 (by omega) (by rw [hj]; simpa using ew) fin
  · have hj : (i + (its.toArray.size : Int)).toNat = j := by
      rw [seqIndex_neg (by omega) h4] at h1
      rw [List.size_toArray, ← hl]
      exact Option.some.inj h1
    exact wpAny_getItem_list_neg pl.isList (by omega) (by rw [List.size_toArray] <;> omega) (by omega) (by rw [hj]; simpa using ew) fin
theorem ps_eaugIx {i : Nat} {x : Str} {k v : Expr} {ka va : Fin.E} {op : Operator} {px p2 : Pos} (hop : ipOk op = true) (hN : X.N[i]? = some x) (hv : Vis X.env.scope x) (hd : (x == ("__debug__" : Str)) = false) (hcd : (x == ("__classdict__" : Str)) = false)
    (hk : PE X k (tE W T ka)) (hvv : PE X v (tE W T va)) (hpk : plainE k = true) : PS X (.AugAssign (.Subscript (.Name x px) k p2) op v pos) (tS W T n (.augIx i ka op va)) := by
  have hnm : PE X (.Name x px) (tVar i) := pe_var hN hv hd hcd
  refine (ps_augS hnm (pe_o hk) get_list (pe_o hvv) (ip_ok op) set_list (fun ov iv new => by cases k <;> first | rfl | cases hpk)).wk fun E σ H h => ?_
  obtain ⟨S, O, env, r, st, hr, post⟩ := h
  simp only [ex] at hr
  split at hr
  · rename_i xs0 ki e1 hi0 q
    obtain ⟨fp, hE⟩ := st
    obtain ⟨v0, g, rc0⟩ := hE.at_ i _ hi0
    refine ⟨v0, g, S, O, env, _, ⟨fp, hE⟩, q, fun S1 O1 H1 kx s1 sv1 => ?_⟩
    obtain ⟨fp1, hE1, rk⟩ := sv1
    cases (show Rp T.K S1 kx (.int ki) from rk)
    split at hr
    · rename_i xs e1i
      split at hr
      · rename_i dx hat
        obtain ⟨v', g2, rc⟩ := hE1.at_ i _ e1i
        rw [g] at g2
        cases g2
        have hvv1 : ∃ a vs, v0 = .ref a ∧ H1 a = some (.lst vs) ∧ RpAll T.K S1 vs xs := by
          generalize fp1 i = fi at rc
          cases rc with
          | lst q r => exact ⟨_, _, rfl, q, r⟩
        obtain ⟨a, vs, rfl, hH1, rr1⟩ := hvv1
        obtain ⟨w, hatV, hw2⟩ := atI_rp rr1 hat
        refine ⟨a, vs, ki, w, rfl, rfl, SqL.of hH1, hatV, ?_⟩
        cases q2 : Res.o (ev T.F va e1) with
        | none => rw [q2] at hr; cases hr
        | some r2 =>
          rw [q2] at hr
          cases r2 with
          | exc c e2 => cases hr
          | ok y e2 =>
            refine ⟨S1, O1, e1, _, ⟨fp1, hE1⟩, q2, fun S2 O2 H2 vy s2 sv2 => ?_⟩
            have ov := opv_of q2 sv2
            have st2 := sv2.st
            simp only at hr
            split at hr
            · rename_i dy hdy
              split at hr
              · rename_i z xs2 hb e2i
                split at hr
                · rename_i hz
                  split at hr
                  · rename_i j hj
                    cases hr
                    obtain ⟨fp2, hE2⟩ := st2
                    refine ip_red hop (hw2.mono s2.ss) (vw_of ⟨fp2, hE2⟩ ov hdy) hb hz fun nv rnv => ?_
                    obtain ⟨v', g3, rc3⟩ := hE2.at_ i _ e2i
                    rw [g] at g3
                    cases g3
                    have hv2 : ∃ vs2, H2 a = some (.lst vs2) ∧ RpAll T.K S2 vs2 xs2 ∧ fp2 i = [a] := by
                      generalize fp2 i = fi at rc3
                      cases rc3 with
                      | lst q r => exact ⟨_, q, r, rfl⟩
                    obtain ⟨vs2, hH2, rr2, hfi⟩ := hv2
                    obtain ⟨s4, E4⟩ := hE2.change (o := .lst (vs2.set j nv)) (c := .lst (xs2.set j z)) g hfi (.lst upd_same (rr2.set rnv j))
                    exact ⟨a, vs2, ki, j, rfl, rfl, hH2, by rw [rr2.length]; exact hj, post S2 O2 _ σ ((s1.trans s2).trans s4) ⟨fp2, E4⟩⟩
                  · cases hr
                · cases hr
              · cases hr
            · cases hr
      · cases hr
    · cases hr
  · cases hr

/-! ### raise -/
structure ExcAt (X : Cx) (T : Tbl) (c : Str) : Prop where
  ex : ∃ C, T.cls c = .ref C ∧ X.mg c = some (.ref C) ∧ PySem.W.excIn X.K C [.type "ValueError", .type "Exception", .type "BaseException", .type "object"] "ValueError.__new__" = true ∧ PySem.W.keepIn X.K (.ref C) = true ∧
    PySem.W.subIn X.K (.ref C) (.type "BaseException") = some true ∧ PySem.W.typeIn X.K (.ref C) = some (.type "type")
theorem ps_eraise {c m : Str} {j : Nat} {p p2 p3 : Pos} (hc : X.calm = true) (tk : Takes X W) (A : ExcAt X T c) (hg : Gl X c) (hd : (c == ("__debug__" : Str)) = false) :
    PS X (.Raise (some (.Call (.Name c p) [.Constant (.str m) j p2] [] p3)) none pos) (tS W T n (.raise c)) := by
  obtain ⟨C, h1, h2, h3, h4, h5, h6⟩ := A.ex
  refine (ps_raise hc tk (pmk_own PySem.F.excBase_ValueError h3 h2 h4 (raises_own h5 h6) hg hd)).wk fun E σ H h => ?_
  obtain ⟨S, O, env, r, st, hr, post⟩ := h
  simp only [ex] at hr
  cases hr
  have q := post S O H σ .refl st
  rw [h1] at q
  exact q

/-! ### try -/
def isX : Out → Bool
  | .exc _ _ => true
  | _ => false
theorem PostS.wish {W' : WX} {r : Out} (h : isX r = false) (p : PostS T W S O H E r) : PostS T W' S O H E r := by
  cases r <;> first | exact p | cases h
theorem noX_some {q : Option Out} {r : Out} (h : noX q = some r) : q = some r ∧ isX r = false := by
  cases q with
  | none => cases h
  | some r0 => cases r0 <;> first | (cases h; exact ⟨rfl, rfl⟩) | cases h
theorem tryx_wk {sb sh : Fin.S} {K : PySem.W.Frag} {c : Str} {cv : Value} (hsub : ∀ x b, T.F.sub x c = some b → PySem.W.exmOne K (T.cls x) cv = some b) (h : tS W T n (.tryx sb c sh) E σ H) :
    tS (wOnly K cv (fun _ _ _ => tS W0 T n sh) W E) T n sb E σ H := by
  obtain ⟨S, O, env, r, st, hr, post⟩ := h
  simp only [ex] at hr
  cases q : ex T.F n sb env with
  | none => rw [q] at hr; cases hr
  | some r1 =>
    rw [q] at hr
    refine ⟨S, O, env, r1, st, q, ?_⟩
    cases r1 with
    | exc x e1 =>
      intro S1 O1 H1 σ1 s1 st1
      simp only at hr
      split at hr
      · rename_i hs
        obtain ⟨h1, h2⟩ := noX_some hr
        exact ⟨true, hsub x true hs, fun _ a ha => ⟨S1, O1, e1, r, st1, h1, (post.step s1).wish h2⟩, fun z => Bool.noConfusion z⟩
      · rename_i hs
        cases hr
        exact ⟨false, hsub x false hs, fun z => Bool.noConfusion z, fun _ => post S1 O1 H1 σ1 s1 st1⟩
      · cases hr
    | nx e1 => cases hr; exact post
    | bk e1 => cases hr; exact post
    | ct e1 => cases hr; exact post
    | rt v e1 => cases hr; exact post
/-- the table within an except suite: the exception at a is of the class cls -/
def Tbl.wx (T : Tbl) (a : Addr) (cls : Value) : Tbl := { T with ex := ⟨fun a' c' => a' = a ∧ T.cls c' = cls ∧ T.isE c', T.ex.p0⟩, lk := T.lk }
theorem CellR.ex_mono {K : PySem.W.Frag} {e1 e2 : Addr → Str → Prop} {v : V} {c : Cell} {fp : List Addr} (h : CellR K e1 S H v c fp) (k : (∀ x, c ≠ .exc x) ∨ ∀ a x, e1 a x → e2 a x) : CellR K e2 S H v c fp := by
  cases h with
  | val q => exact .val q
  | lst q r => exact .lst q r
  | dic q r => exact .dic q r
  | scr q => exact .scr q
  | exc q => rcases k with k | k
             · exact absurd rfl (k _)
             · exact .exc (k _ _ q)
theorem EnvR.ex_mono {K : PySem.W.Frag} {e1 e2 : Xc} {fp : Nat → List Addr} (h : EnvR K e1 S O H σ env fp) (kp : e2.p0 = e1.p0) (k : noEx env = true ∨ ∀ a x, e1.r a x → e2.r a x) : EnvR K e2 S O H σ env fp :=
  ⟨h.sub, h.len, fun i c e => by
    obtain ⟨v, g, rc⟩ := h.at_ i c e
    refine ⟨v, g, rc.ex_mono (k.imp (fun k x z => ?_) id)⟩
    subst z
    unfold noEx at k
    have := List.all_eq_true.mp k _ (List.mem_of_getElem? e)
    simp at this, h.dj, h.ow, h.out, fun v e => h.p0 v (by rw [← kp]; exact e)⟩
theorem tryas_wk {sb sh : Fin.S} {K : PySem.W.Frag} {c : Str} {cv : Value} {i : Nat} (hex : ∀ a x, ¬ T.ex.r a x) (hsub : ∀ x b, T.F.sub x c = some b → PySem.W.exmOne K (T.cls x) cv = some b ∧ T.isE x) (h : tS W T n (.tryas sb c i sh) E σ H) :
    tS (wAs K cv i (fun a cls d E σ H => d = none ∧ tS W0 (T.wx a cls) n sh E σ H) W E) T n sb E σ H := by
  obtain ⟨S, O, env, r, st, hr, post⟩ := h
  simp only [ex] at hr
  cases q : ex T.F n sb env with
  | none => rw [q] at hr; cases hr
  | some r1 =>
    rw [q] at hr
    refine ⟨S, O, env, r1, st, q, ?_⟩
    cases r1 with
    | exc x e1 =>
      intro S1 O1 H1 σ1 s1 st1
      simp only at hr
      split at hr
      · rename_i hs
        split at hr
        case isFalse => cases hr
        rename_i ok
        refine ⟨true, (hsub x true hs).1, fun _ a ha => ⟨rfl, ?_⟩, fun z => Bool.noConfusion z⟩
        obtain ⟨fp1, hE1⟩ := st1
        have E2 := (hE1.ex_mono (e2 := (T.wx a (T.cls x)).ex) rfl (.inr fun a' x' z => absurd z (hex a' x'))).store (i := i) (okp (T := T) ok) (x := .ref a) (c := .exc x) (fx := []) (.exc ⟨rfl, rfl, (hsub x true hs).2⟩) (fun _ z => by simp at z) fun _ z => by simp at z
        cases q2 : ex T.F n sh (e1.set i (some (.exc x))) with
        | none => rw [q2] at hr; cases hr
        | some r2 =>
          rw [q2] at hr
          have post1 := post.step s1
          refine ⟨S1, O1, _, r2, ⟨_, E2⟩, q2, ?_⟩
          have out : ∀ {S' O' H' σ' e2}, noEx (e2.set i none) = true → St0 (T.wx a (T.cls x)) S' O' H' σ' e2 → St0 T S' O' H' (σ'.set i none) (e2.set i none) := fun {S' O' H' σ' e2} hn ⟨fp, hE⟩ => ⟨_, (hE.forget i none (okp (T := T) ok)).ex_mono rfl (.inl hn)⟩
          cases r2 with
          | nx e2 =>
            simp only [offX] at hr
            split at hr
            · rename_i hn
              cases hr
              exact fun S2 O2 H2 σ2 s2 st2 => post1 S2 O2 H2 _ s2 (out hn st2)
            · cases hr
          | bk e2 =>
            simp only [offX] at hr
            split at hr
            · rename_i hn
              cases hr
              exact fun S2 O2 H2 σ2 s2 st2 => post1 S2 O2 H2 _ s2 (out hn st2)
            · cases hr
          | ct e2 =>
            simp only [offX] at hr
            split at hr
            · rename_i hn
              cases hr
              exact fun S2 O2 H2 σ2 s2 st2 => post1 S2 O2 H2 _ s2 (out hn st2)
            · cases hr
          | exc _ _ => cases hr
          | rt v e2 =>
            cases v with
            | d dv =>
              simp only [offX] at hr
              split at hr
              · rename_i hn
                cases hr
                intro S2 O2 H2 σ2 y s2 ⟨fp, hE, ry⟩
                exact post1 S2 O2 H2 (σ2.set i none) y s2 ⟨_, (hE.forget i none (okp (T := T) ok)).ex_mono rfl (.inl hn), ry⟩
              · cases hr
            | sl _ => cases hr
            | fr cc =>
              cases cc with
              | lst xs =>
                simp only [offX] at hr
                split at hr
                · rename_i hn
                  cases hr
                  intro S2 O2 H2 σ2 y s2 ⟨fp, hE, fx, hc, ho⟩
                  refine post1 S2 O2 H2 (σ2.set i none) y s2 ⟨_, (hE.forget i none (okp (T := T) ok)).ex_mono rfl (.inl hn), fx, hc.ex_mono (.inl fun _ z => by cases z), fun a ha => ⟨(ho a ha).1, fun j hj => ?_⟩⟩
                  by_cases z : j = i
                  · simp [z] at hj
                  · simp only [z, if_false] at hj
                    exact (ho a ha).2 j hj
                · cases hr
              | _ => cases hr
      · rename_i hs
        cases hr
        exact ⟨false, (hsub x false hs).1, fun z => Bool.noConfusion z, fun _ => post S1 O1 H1 σ1 s1 st1⟩
      · cases hr
    | nx e1 => cases hr; exact post
    | bk e1 => cases hr; exact post
    | ct e1 => cases hr; exact post
    | rt v e1 => cases hr; exact post
end
end Fin
/-! Fin 13: from the text's trees to the small language, and that it is right: expressions. -/
namespace Fin
open PySem PySem.Spec PyProof.Rows L2
structure Cf where
  N : List Str
  sc : Scope
  fns : List (Str × Nat)
  cons : List Str
  excs : List Str
def ixOf : List Str → Str → Option Nat
  | [], _ => none
  | y :: ys, x => if y = x then some 0 else (ixOf ys x).map (· + 1)
theorem ixOf_get : ∀ {N : List Str} {x : Str} {i : Nat}, ixOf N x = some i → N[i]? = some x
  | [], _, _, h => by simp [ixOf] at h
  | y :: ys, x, i, h => by
    unfold ixOf at h
    split at h
    · rename_i e; cases h; simp [e]
    · obtain ⟨j, h1, rfl⟩ := Option.map_eq_some_iff.mp h
      simpa using ixOf_get h1
def visB (sc : Scope) (x : Str) : Bool := match sc.names.lookup x with
  | some .local => true
  | some .cell => true
  | some .free => true
  | _ => false
theorem vis_of {sc : Scope} {x : Str} (h : visB sc x = true) : Vis sc x := by
  unfold visB at h
  split at h <;> first | exact .inl (by assumption) | exact .inr (.inl (by assumption)) | exact .inr (.inr (by assumption)) | cases h
def locB (sc : Scope) (x : Str) : Bool := match sc.names.lookup x with
  | some .local => true
  | some .cell => true
  | _ => false
theorem loc_of {sc : Scope} {x : Str} (h : locB sc x = true) : Loc sc x := by
  unfold locB at h
  split at h <;> first | exact .inl (by assumption) | exact .inr (by assumption) | cases h
def lclB (sc : Scope) (x : Str) : Bool := match sc.names.lookup x with
  | some .local => true
  | _ => false
theorem lcl_of {sc : Scope} {x : Str} (h : lclB sc x = true) : sc.names.lookup x = some .local := by
  unfold lclB at h
  split at h <;> first | assumption | cases h
def glB (sc : Scope) (x : Str) : Bool := match sc.names.lookup x with
  | some .globalImplicit => true
  | _ => false
theorem gl_of {X : Cx} {x : Str} (h : glB X.env.scope x = true) : Gl X x := by
  unfold glB at h
  split at h <;> first | assumption | cases h
def okN (x : Str) : Bool := !(x == ("__debug__" : Str)) && !(x == ("__classdict__" : Str))
theorem okN_d {x : Str} (h : okN x = true) : (x == ("__debug__" : Str)) = false := by simp [okN] at h; simpa using h.1
theorem okN_c {x : Str} (h : okN x = true) : (x == ("__classdict__" : Str)) = false := by simp [okN] at h; simpa using h.2
def bltNames : List Str := ["len", "abs", "max", "min", "int", "bool", "str", "list", "tuple", "range", "isinstance", "sorted", "sum", "enumerate", "reversed"]
def tyOf (x : Str) : Option Ty :=
  if x = Str.ofString Ty.int.name then some .int else if x = Str.ofString Ty.bool.name then some .bool else if x = Str.ofString Ty.str.name then some .str else if x = Str.ofString Ty.list.name then some .list else if x = Str.ofString Ty.tuple.name then some .tuple else none
theorem tyOf_some {x : Str} {ty : Ty} (h : tyOf x = some ty) : x = Str.ofString ty.name := by
  unfold tyOf at h
  repeat' (split at h)
  all_goals first | (cases h; assumption) | cases h
theorem ty_blt (ty : Ty) : (Str.ofString ty.name : Str) ∈ bltNames := by cases ty <;> decide

structure Good (X : Cx) (T : Tbl) (W : WX) (k : Nat) (C : Cf) (cm : Bool) : Prop where
  kk : T.K = X.K
  eN : X.N = C.N
  esc : X.env.scope = C.sc
  nd : X.N.Nodup
  kd : X.env.scope.kind = .function
  units : X.A.units + 64 < cLine
  calm : cm = true → X.calm = true
  room : cm = true → Room k X.A
  tk : Takes X W
  fns : cm = true → ∀ f m, (f, m) ∈ C.fns → ∀ fn, T.F.fns f = some fn → FnAt X T k f fn m
  cons : ∀ x ∈ C.cons, ∀ d, T.F.cons x = some d → ∃ u v, X.mg x = some u ∧ RelV v u ∧ ∀ S : Hp, Rp T.K S v d
  blt : ∀ b ∈ bltNames, X.mg b = none
  isx : ∀ a c, T.ex.r a c → ∃ D, T.cls c = .ref D ∧ CallR X (.builtin "isinstance") (rIsE X.K D a)
  isEs : ∀ c, T.isE c → ∃ D, T.cls c = .ref D ∧ ExcC X.K D
  noex : cm = true → ∀ a c, ¬ T.ex.r a c
  excs : ∀ c ∈ C.excs, ExcAt X T c ∧ ∀ x b, T.F.sub x c = some b → PySem.W.kitOne X.K (T.cls x) (T.cls c) = some b ∧ PySem.W.exmOne X.K (T.cls x) (T.cls c) = some b ∧ T.isE x

def baseB : Expr → Bool
  | .Call f es kws _ => match f, es, kws with
    | .Name id _, [], [] => id != "super"
    | _, _, _ => true
  | e => plainE e
theorem baseB_ok {e : Expr} (h : baseB e = true) (a : Str) (env : PySem.Env) (w : Sem Value) : attributeBase e a env w = w := by
  cases e with
  | Call f es kws pos =>
    cases f with
    | Name id p =>
      cases es with
      | nil =>
        cases kws with
        | nil =>
          have hid : (id != "super") = true := h
          unfold attributeBase
          simp only [hid, Bool.true_or, if_true]
        | cons _ _ => rfl
      | cons _ _ => rfl
    | _ => rfl
  | _ => first | rfl | (simp [baseB, plainE] at h)
def bi1 (f : Str) (cm : Bool) : Option Bi :=
  if f = "len" then some .len else if f = "abs" then some .abs else if f = "int" then some .int else if f = "list" then some .list else if f = "tuple" then some .tuple else if f = "sorted" then some .sorted
  else if cm && decide (f = "max") then some .max else if cm && decide (f = "min") then some .min else if cm && decide (f = "sum") then some .sum else none
def reConst : Const → Option E
  | .int i => some (.c (.int i))
  | .bool b => some (.c (.bool b))
  | .none => some (.c .none)
  | .str s => some (.c (.str s))
  | _ => none
def reName (C : Cf) (x : Str) : Option E :=
  if okN x then (match ixOf C.N x with
    | some i => if visB C.sc x then some (.var i) else none
    | none => if glB C.sc x && C.cons.contains x then some (.glob x) else none) else none
def fnAr (C : Cf) (f : Str) (n : Nat) : Bool := C.fns.any fun p => decide (p.1 = f ∧ p.2 = n)
/-- a comprehension's own name -/
def blkB (C : Cf) (scope : Scope) (x : Str) (i : Nat) : Bool := blkC C.N C.sc scope [(x, i)] && (lclB (relS scope C.sc) x || (locB (relS scope C.sc) x && decide (scope.names.lookup x = some .cell)))
def bmB (m : Str) : Bool := decide (m = "bit_length") || (decide (m = "find") || (decide (m = "count") || (decide (m = "index") || decide (m = "get"))))
def isTup : Expr → Bool
  | .Tuple .. => true
  | _ => false
/-- range(a) -/
def rng1 : List Expr → Option (Str × Expr)
  | [.Call (.Name r _) [a] [] _] => some (r, a)
  | _ => none
mutual
def reE (C : Cf) (cm : Bool) : Nat → Expr → Option E
  | 0, _ => none
  | n + 1, e => match e with
    | .Name x _ => reName C x
    | .Constant c _ _ => reConst c
    | .BinOp a op b _ => match reE C cm n a, reE C cm n b with
      | some x, some y => some (.bin op x y)
      | _, _ => none
    | .UnaryOp op a _ => match reE C cm n a with
      | some x => (match op with
        | .Not => some (.not x)
        | op => some (.un op x))
      | none => none
    | .Compare a ops bs _ => match ops, bs with
      | [op], [b] => match reE C cm n a, reE C cm n b, plainE b with
        | some x, some y, true => some (.cmp op x y)
        | _, _, _ => none
      | [o1, o2], [b, c] => match reE C cm n a, reE C cm n b, reE C cm n c, lastMarks [o1, o2] [b, c] with
        | some x, some y, some z, false => some (.chn o1 o2 x y z)
        | _, _, _, _ => none
      | _, _ => none
    | .BoolOp op es pos => match es with
      | [a] => reE C cm n a
      | a :: b :: rest => match reE C cm n a, reE C cm n (.BoolOp op (b :: rest) pos) with
        | some x, some y => (match op with
          | .And => some (.and x y)
          | .Or => some (.or x y))
        | _, _ => none
      | [] => none
    | .IfExp c a b _ => match reT C cm n c, reE C cm n a, reE C cm n b with
      | some c, some x, some y => some (.ite c x y)
      | _, _, _ => none
    | .Tuple es _ _ => (reEs C cm n es).map .tup
    | .List es _ => (reEs C cm n es).map .lst
    | .Dict ks vs _ => match ks, vs with
      | [], [] => some .dic0
      | _, _ => none
    | .Subscript a b _ => match b with
      | .Slice lo hi st _ => match st with
        | none => match reE C cm n a, reO C cm n lo, reO C cm n hi with
          | some x, some l, some h => some (.sl x l h)
          | _, _, _ => none
        | some (.UnaryOp .USub (.Constant (.int z) _ _) _) => if z = 1 then (match lo, hi with
          | none, none => (reE C cm n a).map .rev
          | _, _ => none) else none
        | _ => none
      | b => match reE C cm n a, reE C cm n b, plainE b with
        | some x, some y, true => some (.ix x y)
        | _, _, _ => none
    | .JoinedStr vs _ => match vs with
      | [.FormattedValue a cv (some (.JoinedStr [.Constant (.str s) _ _] _)) _] => if cv = -1 ∧ s = "b" then (reE C cm n a).map .fb else none
      | _ => none
    | .Call f es kws pos => match kws with
      | [] => (match f with
        | .Name f _ => reCall C cm n f es
        | .Attribute o m pa => reMeth C cm n o m pa es pos
        | _ => none)
      | _ => none
    | .ListComp elt gs scope _ => if cm then (match gs with
      | [⟨.Name x px, iter, ifs, 0⟩] => (match ixOf C.N x with
        | some i => if blkB C scope x i && plainE iter then (match reI C cm false n iter, reE { C with sc := relS scope C.sc } cm n elt, reIfs { C with sc := relS scope C.sc } cm n ifs with
          | some it, some ea, some ca => some (.comp ea i it ca)
          | _, _, _ => none) else none
        | none => none)
      | _ => none) else none
    | _ => none
def reIfs (C : Cf) (cm : Bool) : Nat → List Expr → Option Te
  | 0, _ => none
  | n + 1, ifs => match ifs with
    | [] => some (.val (.c (.bool true)))
    | [c] => reT C cm n c
    | _ => none
def reO (C : Cf) (cm : Bool) : Nat → Option Expr → Option Ox
  | 0, _ => none
  | n + 1, o => match o with
    | none => some .non
    | some e => (reE C cm n e).map .some
def reEs (C : Cf) (cm : Bool) : Nat → List Expr → Option Es
  | 0, _ => none
  | n + 1, es => match es with
    | [] => some .nil
    | e :: es => match reE C cm n e, reEs C cm n es, plainE e with
      | some x, some xs, true => some (.cons x xs)
      | _, _, _ => none
def reCall (C : Cf) (cm : Bool) : Nat → Str → List Expr → Option E
  | 0, _, _ => none
  | n + 1, f, es => if glB C.sc f && okN f then (if f = "isinstance" then (match es with
      | [a, .Name x _] => if glB C.sc x && okN x then (match tyOf x with
        | some ty => (match reE C cm n a, plainE a with
          | some ea, true => some (.isi ea ty)
          | _, _ => none)
        | none => if C.excs.contains x then (match a with
          | .Name y _ => if okN y && visB C.sc y then (ixOf C.N y).map fun i => .isx i x else none
          | _ => none) else none) else none
      | _ => none)
    else if cm && decide (f = "list") && (rng1 es).isSome then (match rng1 es with
      | some (r, a) => if decide (r = "range") && glB C.sc r && plainE a then (reE C cm n a).map fun ea => .lsI (.rng (.cons ea .nil)) else none
      | none => none)
    else (match bi1 f cm with
      | some b => (match es with
        | e :: es => (match reEs C cm n (e :: es), plainEs (e :: es) with
          | some eas, true => some (.bi b eas)
          | _, _ => none)
        | [] => none)
      | none => if cm then (match es with
        | e :: es => (match reEs C cm n (e :: es), plainEs (e :: es) with
          | some eas, true => if fnAr C f eas.len then some (.call f eas) else none
          | _, _ => none)
        | [] => none) else none)) else none
def reMeth (C : Cf) (cm : Bool) : Nat → Expr → Str → Pos → List Expr → Pos → Option E
  | 0, _, _, _, _, _ => none
  | n + 1, o, m, pa, es, pos => if pa.endLine == pos.line then (if bmB m then reBm C cm n o m es
    else match o, es with
    | .Name x _, [e] => if okN x && visB C.sc x then (match ixOf C.N x, reEs C cm n [e], plainE e with
      | some i, some eas, true => if m = "append" then some (.mm .append i eas) else if m = "pop" then some (.mm .pop i eas) else none
      | _, _, _ => none) else none
    | .Name x _, [k, d] => if okN x && visB C.sc x && decide (m = "setdefault") && plainE k && plainE d then (match ixOf C.N x, reE C cm n k, reE C cm n d with
      | some i, some ka, some da => some (.dset i ka da)
      | _, _, _ => none) else none
    | _, _ => none) else none
def reBm (C : Cf) (cm : Bool) : Nat → Expr → Str → List Expr → Option E
  | 0, _, _, _ => none
  | n + 1, o, m, es => match es with
    | [] => if baseB o && decide (m = "bit_length") then (reE C cm n o).map fun x => .bm .bits x .nil else none
    | b :: rest => match rest with
      | [] => (match reE C cm n o, reE C cm n b, plainE b && baseB o with
        | some x, some y, true => (if m = "find" then some (.bm .find x (.cons y .nil)) else if m = "count" then some (.bm .count x (.cons y .nil)) else if m = "index" then some (.b2 .index x y) else none)
        | _, _, _ => none)
      | [c] => if decide (m = "get") && baseB o && plainE b && plainE c then (match reE C cm n o, reE C cm n b, reE C cm n c with
        | some x, some y, some z => some (.dget x y z)
        | _, _, _ => none) else none
      | _ => none
def reT (C : Cf) (cm : Bool) : Nat → Expr → Option Te
  | 0, _ => none
  | n + 1, e => match e with
    | .UnaryOp op a _ => (match op with
      | .Not => (reT C cm n a).map .not
      | _ => none)
    | .BoolOp op es pos => match es with
      | [a] => reT C cm n a
      | a :: b :: rest => match reT C cm n a, reT C cm n (.BoolOp op (b :: rest) pos) with
        | some x, some y => (match op with
          | .And => some (.and x y)
          | .Or => some (.or x y))
        | _, _ => none
      | [] => none
    | .Compare a ops bs pos => (reE C cm n (.Compare a ops bs pos)).map .val
    | e => if plainT e then (reE C cm n e).map .val else none
def reI (C : Cf) (cm : Bool) (tup : Bool) : Nat → Expr → Option It
  | 0, _ => none
  | n + 1, e => match e with
    | .Call (.Name f _) es [] _ => if f = "range" && glB C.sc f then (match es with
        | [a] => (match reEs C cm n [a], plainE a with
          | some eas, true => some (.rng eas)
          | _, _ => none)
        | [a, b] => (match reEs C cm n [a, b], plainE a && plainE b with
          | some eas, true => some (.rng eas)
          | _, _ => none)
        | _ => none)
      else if f = "enumerate" && glB C.sc f && tup then (match es with
        | [a] => if plainE a then (reE C cm n a).map .enum else none
        | _ => none)
      else if f = "reversed" && glB C.sc f then (match es with
        | [a] => (match rng1 es with
          | some (r, b) => if decide (r = "range") && glB C.sc r && plainE b then (reE C cm n b).map fun eb => .revr (.cons eb .nil) else if plainE a then (reE C cm n a).map .rev else none
          | none => if plainE a then (reE C cm n a).map .rev else none)
        | _ => none)
      else (reE C cm n e).map .seq
    | e => (reE C cm n e).map .seq
end
end Fin
/-! Fin 14: the small language is right for expressions. -/
namespace Fin
open PySem PySem.Spec PyProof.Rows L2
structure ReOk (n : Nat) : Prop where
  e : ∀ {X : Cx} {T : Tbl} {W : WX} {k : Nat} {C : Cf} {cm : Bool} {e : Expr} {ea : E}, Good X T W k C cm → reE C cm n e = some ea → PE X e (tE W T ea)
  ifs : ∀ {X : Cx} {T : Tbl} {k : Nat} {C : Cf} {cm : Bool} {ifs : List Expr} {ca : Te}, Good X T W0 k C cm → reIfs C cm n ifs = some ca → PTs X ifs (tT W0 T ca)
  o : ∀ {X : Cx} {T : Tbl} {W : WX} {k : Nat} {C : Cf} {cm : Bool} {o : Option Expr} {oa : Ox}, Good X T W k C cm → reO C cm n o = some oa → PO X o (tX W T oa)
  es : ∀ {X : Cx} {T : Tbl} {W : WX} {k : Nat} {C : Cf} {cm : Bool} {es : List Expr} {eas : Es}, Good X T W k C cm → reEs C cm n es = some eas → PA X es (tA W T eas)
  call : ∀ {X : Cx} {T : Tbl} {W : WX} {k : Nat} {C : Cf} {cm : Bool} {f : Str} {es : List Expr} {ea : E} {p pos : Pos}, Good X T W k C cm → reCall C cm n f es = some ea → PE X (.Call (.Name f p) es [] pos) (tE W T ea)
  meth : ∀ {X : Cx} {T : Tbl} {W : WX} {k : Nat} {C : Cf} {cm : Bool} {o : Expr} {m : Str} {pa pos : Pos} {es : List Expr} {ea : E}, Good X T W k C cm → reMeth C cm n o m pa es pos = some ea → PE X (.Call (.Attribute o m pa) es [] pos) (tE W T ea)
  bm : ∀ {X : Cx} {T : Tbl} {W : WX} {k : Nat} {C : Cf} {cm : Bool} {o : Expr} {m : Str} {pa pos : Pos} {es : List Expr} {ea : E}, Good X T W k C cm → (pa.endLine == pos.line) = true → reBm C cm n o m es = some ea → PE X (.Call (.Attribute o m pa) es [] pos) (tE W T ea)
  t : ∀ {X : Cx} {T : Tbl} {W : WX} {k : Nat} {C : Cf} {cm : Bool} {e : Expr} {ca : Te}, Good X T W k C cm → reT C cm n e = some ca → PT X e (tT W T ca) ∧ ∀ op vs pos, e = .BoolOp op vs pos → PW X e (tT W T ca)
  i : ∀ {X : Cx} {T : Tbl} {W : WX} {k : Nat} {C : Cf} {cm tup : Bool} {tg e : Expr} {ia : It}, (tup = true → ∃ elts kk tpos, tg = .Tuple elts kk tpos) → Good X T W k C cm → reI C cm tup n e = some ia → PI X tg e (tI W T ia)
theorem re_len {C : Cf} {cm : Bool} : ∀ {n : Nat} {es : List Expr} {eas : Es}, reEs C cm n es = some eas → eas.len = es.length
  | 0, _, _, h => by simp [reEs] at h
  | n + 1, [], eas, h => by simp [reEs] at h; subst h; rfl
  | n + 1, e :: es, eas, h => by
    simp only [reEs] at h
    split at h
    · rename_i x xs _ q _
      cases h
      simp [Es.len, re_len q]
    · cases h
section
variable {X : Cx} {T : Tbl} {W : WX} {k : Nat} {C : Cf} {cm : Bool}
theorem name_ok {x : Str} {ea : E} {pos : Pos} (G : Good X T W k C cm) (h : reName C x = some ea) : PE X (.Name x pos) (tE W T ea) := by
  unfold reName at h
  split at h
  · rename_i hx
    split at h
    · rename_i i hi
      split at h
      · rename_i hv
        cases h
        exact pe_evar (by rw [G.eN]; exact ixOf_get hi) (by rw [G.esc]; exact vis_of hv) (okN_d hx) (okN_c hx)
      · cases h
    · split at h
      · rename_i hg
        cases h
        simp only [Bool.and_eq_true] at hg
        exact pe_eglob (gl_of (by rw [G.esc]; exact hg.1)) (okN_d hx) (G.cons x (by simpa using hg.2))
      · cases h
  · cases h
theorem const_ok {c : Const} {ea : E} {j : Nat} {pos : Pos} (h : reConst c = some ea) : PE X (.Constant c j pos) (tE W T ea) := by
  cases c <;> simp only [reConst] at h <;> first | (cases h; first | exact pe_cint | exact pe_cbl | exact pe_cnon | exact pe_cstr) | cases h
theorem Good.gl (G : Good X T W k C cm) {f : Str} (h : glB C.sc f = true) : Gl X f := gl_of (by rw [G.esc]; exact h)
/-- within a comprehension -/
theorem Good.blk (G : Good X T W k C cm) (hcm : cm = true) {scope : Scope} (hk : scope.kind = .function) (s : Shared) (H : Hp) (A : Addr) (cl : List (Str × Addr)) (fp : List Addr) :
    Good (X.blk s H scope (compEnvC scope cl A X.env) fp) T W0 k { C with sc := relS scope C.sc } cm where
  eN := G.eN
  esc := by show relS scope X.env.scope = _; rw [G.esc]
  nd := G.nd
  kd := hk
  units := G.units
  calm := G.calm
  room := G.room
  tk := takes0
  fns := fun hz f m hm fn hf => let ⟨a, fd, ps, h⟩ := (G.fns hz f m hm fn hf).ex; ⟨⟨a, fd, ps, h⟩⟩
  cons := G.cons
  blt := G.blt
  isx := fun a c h => absurd h (G.noex hcm a c)
  isEs := G.isEs
  noex := G.noex
  kk := G.kk
  excs := fun c hc => let ⟨⟨h1⟩, h2⟩ := G.excs c hc; ⟨⟨h1⟩, h2⟩
theorem isx_ok {x y f : Str} {i : Nat} {p p2 p3 pos : Pos} (G : Good X T W k C cm) (hf : f = "isinstance") (hg : glB C.sc f = true) (hy : okN y = true) (hv : visB C.sc y = true) (hi : ixOf C.N y = some i) (hx : x ∈ C.excs) (hgx : glB C.sc x = true) (hxo : okN x = true) :
    PE X (.Call (.Name f p) [.Name y p2, .Name x p3] [] pos) (tE W T (.isx i x)) := by
  subst hf
  obtain ⟨⟨Cd, h1, h2, _⟩, h3⟩ := G.excs x hx
  have hvar : PE X (.Name y p2) (tVar i) := pe_var (by rw [G.eN]; exact ixOf_get hi) (by rw [G.esc]; exact vis_of hv) (okN_d hy) (okN_c hy)
  have hcls : PE X (.Name x p3) (tC (.ref Cd)) := pe_glob (G.gl hgx) h2 rfl (okN_d hxo)
  refine ⟨fun pins s σ H Q I h => ?_⟩
  obtain ⟨S, O, env, r, ⟨fp, hE⟩, hr, post⟩ := h
  simp only [ev] at hr
  split at hr
  · rename_i z ez
    cases hb : T.F.sub z x with
    | none => rw [hb] at hr; cases hr
    | some b =>
      rw [hb] at hr
      cases hr
      obtain ⟨v, g, rc⟩ := hE.at_ i _ ez
      have hv : ∃ a, v = .ref a ∧ T.ex.r a z := by
        generalize fp i = fi at rc
        cases rc with
        | exc q => exact ⟨_, rfl, q⟩
      obtain ⟨a, rfl, hx2⟩ := hv
      obtain ⟨Dd, hD, hcall⟩ := G.isx a z hx2
      refine (pe_callB hcall (G.gl hg) (G.blt _ (by decide)) (by decide +kernel) (pa_cons hvar (pa_cons hcls pa_nil))).run pins s σ H Q I ?_
      refine ⟨_, g, .ref Cd, .ref Cd, b, rfl, fun u hu => hu, ?_, post S O H _ .refl ⟨fp, hE, .bl b⟩⟩
      have := (h3 z b hb).1
      rw [hD, h1] at this
      exact this
  · cases hr
theorem bi_ok {b : Bi} {f : Str} {e : Expr} {es : List Expr} {eas : Es} {p pos : Pos} (G : Good X T W k C cm) (hg : Gl X f) (hb : bi1 f cm = some b) (ha : PA X (e :: es) (tA W T eas)) (hp : plainEs (e :: es) = true) : PE X (.Call (.Name f p) (e :: es) [] pos) (tE W T (.bi b eas)) := by
  unfold bi1 at hb
  repeat' (split at hb)
  · cases hb; subst_vars; exact pe_elen G.kk hg (G.blt _ (by decide)) ha hp
  · cases hb; subst_vars; exact pe_eabs hg (G.blt _ (by decide)) ha hp
  · cases hb; subst_vars; exact pe_eint hg (G.blt _ (by decide)) ha hp
  · cases hb; subst_vars; exact pe_elist G.kk hg (G.blt _ (by decide)) ha hp
  · cases hb; subst_vars; exact pe_etuple G.kk hg (G.blt _ (by decide)) ha hp
  · cases hb; subst_vars; exact pe_esorted G.kk hg (G.blt _ (by decide)) ha hp
  · rename_i q
    cases hb
    simp only [Bool.and_eq_true, decide_eq_true_eq] at q
    obtain ⟨q1, rfl⟩ := q
    exact pe_emax (G.calm q1) hg (G.blt _ (by decide)) ha hp
  · rename_i q
    cases hb
    simp only [Bool.and_eq_true, decide_eq_true_eq] at q
    obtain ⟨q1, rfl⟩ := q
    exact pe_emin (G.calm q1) hg (G.blt _ (by decide)) ha hp
  · rename_i q
    cases hb
    simp only [Bool.and_eq_true, decide_eq_true_eq] at q
    obtain ⟨q1, rfl⟩ := q
    exact pe_esum (G.calm q1) hg (G.blt _ (by decide)) ha hp
  · cases hb
theorem map_some {α β : Type} {o : Option α} {f : α → β} {b : β} (h : o.map f = some b) : ∃ a, o = some a ∧ f a = b := Option.map_eq_some_iff.mp h
theorem rng1_some {es : List Expr} {r : Str} {a : Expr} (h : rng1 es = some (r, a)) : ∃ p pos, es = [.Call (.Name r p) [a] [] pos] := by
  unfold rng1 at h
  split at h
  · cases h; exact ⟨_, _, rfl⟩
  · cases h
theorem reOk : ∀ n, ReOk n
  | 0 => by
    constructor <;> intros <;> rename_i h <;> simp [reE, reIfs, reO, reEs, reCall, reMeth, reBm, reT, reI] at h
  | n + 1 => by
    have ih := reOk n
    refine ⟨?_, ?_, ?_, ?_, ?_, ?_, ?_, ?_, ?_⟩
    · intro X T W k C cm e ea G h
      cases e with
      | Name x p => simp only [reE] at h; exact name_ok G h
      | Constant c j p => simp only [reE] at h; exact const_ok h
      | BinOp a op b p =>
        simp only [reE] at h
        split at h
        · rename_i x y h1 h2
          cases h
          exact pe_bin (ih.e G h1) (ih.e G h2)
        · cases h
      | UnaryOp op a p =>
        simp only [reE] at h
        split at h
        · rename_i x h1
          cases op <;> simp only at h <;> cases h <;> first | exact pe_enot (ih.e G h1) | exact pe_eun (ih.e G h1)
        · cases h
      | Compare a ops bs p =>
        simp only [reE] at h
        split at h
        · split at h
          · rename_i x y h1 h2 hp
            cases h
            exact pe_ecmp G.kk G.units (ih.e G h1) (ih.e G h2) (behind_of hp _)
          · cases h
        · split at h
          · rename_i x y z h1 h2 h3 hl
            cases h
            exact pe_echn G.kk G.units (ih.e G h1) (ih.e G h2) (ih.e G h3) hl
          · cases h
        · cases h
      | BoolOp op es p =>
        simp only [reE] at h
        split at h
        · exact pe_eone (ih.e G h)
        · split at h
          · rename_i x y h1 h2
            cases op <;> simp only at h <;> cases h
            · exact pe_eand (ih.e G h1) (ih.e G h2)
            · exact pe_eor (ih.e G h1) (ih.e G h2)
          · cases h
        · cases h
      | IfExp c a b p =>
        simp only [reE] at h
        split at h
        · rename_i c' x y h1 h2 h3
          cases h
          exact pe_eite (ih.t G h1).1 (ih.e G h2) (ih.e G h3)
        · cases h
      | Tuple es j p =>
        simp only [reE] at h
        obtain ⟨eas, h1, rfl⟩ := map_some h
        exact pe_etup (ih.es G h1)
      | List es p =>
        simp only [reE] at h
        obtain ⟨eas, h1, rfl⟩ := map_some h
        exact pe_elst (ih.es G h1)
      | Dict ks vs p =>
        simp only [reE] at h
        split at h
        · cases h; exact pe_edic0
        · cases h
      | Subscript a b p =>
        simp only [reE] at h
        split at h
        · split at h
          · split at h
            · rename_i x l hh h1 h2 h3
              cases h
              exact pe_esl (ih.e G h1) (ih.o G h2) (ih.o G h3)
            · cases h
          · split at h
            · rename_i hz
              subst hz
              split at h
              · obtain ⟨x, h1, rfl⟩ := map_some h
                exact pe_erev (ih.e G h1)
              · cases h
            · cases h
          · cases h
        · split at h
          · rename_i x y h1 h2 hp
            cases h
            exact pe_eix G.kk (by have := G.units; omega) (ih.e G h1) (ih.e G h2) hp
          · cases h
      | JoinedStr vs p =>
        simp only [reE] at h
        split at h
        · split at h
          · rename_i hz
            obtain ⟨hz1, hz2⟩ := hz
            subst hz1 hz2
            obtain ⟨x, h1, rfl⟩ := map_some h
            exact pe_efb (ih.e G h1)
          · cases h
        · cases h
      | Call f es kws p =>
        simp only [reE] at h
        split at h
        · split at h
          · exact ih.call G h
          · exact ih.meth G h
          · cases h
        · cases h
      | ListComp elt gs scope p =>
        simp only [reE] at h
        split at h
        · rename_i hcm
          split at h
          · rename_i x px iter ifs
            split at h
            · rename_i i hi
              split at h
              · rename_i hb
                split at h
                · rename_i it ea' ca h1 h2 h3
                  cases h
                  simp only [Bool.and_eq_true] at hb
                  obtain ⟨hb, hp⟩ := hb
                  unfold blkB at hb
                  simp only [Bool.and_eq_true] at hb
                  obtain ⟨hb1, hb2⟩ := hb
                  have bk : BlkOk X.N X.env.scope scope [(x, i)] := by rw [G.eN, G.esc]; exact blkOk_by hb1
                  refine pe_ecomp (G.calm hcm) G.nd (ih.i (fun z => Bool.noConfusion z) G h1) bk (fun s H A cl fp => ?_) (fun s H A cl fp => ih.ifs (G.blk hcm bk.kind s H A cl fp) h3) (fun s H A cl fp => ih.e (G.blk hcm bk.kind s H A cl fp) h2) hp
                  have hN : (X.blk s H scope (compEnvC scope cl A X.env) fp).N[i]? = some x := by show X.N[i]? = _; rw [G.eN]; exact ixOf_get hi
                  have esc : (X.blk s H scope (compEnvC scope cl A X.env) fp).env.scope = relS scope C.sc := by show relS scope X.env.scope = _; rw [G.esc]
                  simp only [Bool.or_eq_true, Bool.and_eq_true, decide_eq_true_eq] at hb2
                  rcases hb2 with q | ⟨q1, q2⟩
                  · exact pg_name G.nd hN (.inl (by rw [esc]; exact lcl_of q)) (.inr (by rw [esc]; exact lcl_of q))
                  · exact pg_name G.nd hN (by rw [esc]; exact loc_of q1) (.inl (by show (scope.names.lookup x == some .cell) = true; rw [q2]; rfl))
                · cases h
              · cases h
            · cases h
          · cases h
        · cases h
      | _ => simp only [reE] at h; cases h
    · intro X T k C cm ifs ca G h
      simp only [reIfs] at h
      split at h
      · cases h; exact pts_enil
      · exact pts_eone (ih.t G h).1
      · cases h
    · intro X T W k C cm o oa G h
      cases o with
      | none => simp only [reO] at h; cases h; exact po_enon
      | some e => simp only [reO] at h; obtain ⟨x, h1, rfl⟩ := map_some h; exact po_esome (ih.e G h1)
    · intro X T W k C cm es eas G h
      cases es with
      | nil => simp only [reEs] at h; cases h; exact pa_enil
      | cons e es =>
        simp only [reEs] at h
        split at h
        · rename_i x xs h1 h2 hp
          cases h
          exact pa_econs (ih.e G h1) (ih.es G h2) hp
        · cases h
    · intro X T W k C cm f es ea p pos G h
      simp only [reCall] at h
      split at h
      · rename_i hg
        simp only [Bool.and_eq_true] at hg
        obtain ⟨hg, ho⟩ := hg
        split at h
        · rename_i hf
          split at h
          · rename_i a x px
            split at h
            · rename_i hx
              simp only [Bool.and_eq_true] at hx
              split at h
              · rename_i ty hty
                split at h
                · rename_i ea' h1 hp
                  cases h
                  subst hf
                  have e := tyOf_some hty
                  exact pe_eisi G.kk e (G.gl hg) (G.blt _ (by decide)) (G.gl hx.1) (by rw [e]; exact G.blt _ (ty_blt ty)) (ih.e G h1) hp
                · cases h
              · split at h
                · rename_i hxx
                  split at h
                  · rename_i y py
                    split at h
                    · rename_i hy
                      simp only [Bool.and_eq_true] at hy
                      obtain ⟨i, hi, rfl⟩ := map_some h
                      exact isx_ok G hf hg hy.1 hy.2 hi (by simpa using hxx) hx.1 hx.2
                    · cases h
                  · cases h
                · cases h
            · cases h
          · cases h
        · split at h
          · rename_i hl
            simp only [Bool.and_eq_true, decide_eq_true_eq] at hl
            obtain ⟨⟨hcm, hfl⟩, _⟩ := hl
            subst hfl
            split at h
            · rename_i r a hr1
              obtain ⟨p9, pos9, rfl⟩ := rng1_some hr1
              split at h
              · rename_i hx
                simp only [Bool.and_eq_true, decide_eq_true_eq] at hx
                obtain ⟨⟨rfl, hgr⟩, hpa⟩ := hx
                obtain ⟨ea', h1, rfl⟩ := map_some h
                exact pe_elrg1 (G.calm hcm) (G.gl hg) (G.blt _ (by decide)) (G.gl hgr) (G.blt _ (by decide)) (ih.e G h1) hpa
              · cases h
            · cases h
          split at h
          · rename_i b hb
            split at h
            · split at h
              · rename_i eas h1 hp
                cases h
                exact bi_ok G (G.gl hg) hb (ih.es G h1) hp
              · cases h
            · cases h
          · split at h
            · rename_i hcm
              split at h
              · split at h
                · rename_i eas h1 hp
                  split at h
                  · rename_i hfn
                    cases h
                    refine pe_ecall (G.gl hg) (okN_d ho) G.tk (G.room hcm) (fun fn hf => ?_) (ih.es G h1) hp
                    unfold fnAr at hfn
                    obtain ⟨q, hq, hq2⟩ := List.any_eq_true.mp hfn
                    obtain ⟨e1, e2⟩ := of_decide_eq_true hq2
                    exact G.fns hcm f _ (by rw [← e1, ← e2]; exact hq) fn hf
                  · cases h
                · cases h
              · cases h
            · cases h
      · cases h
    · intro X T W k C cm o m pa pos es ea G h
      simp only [reMeth] at h
      split at h
      · rename_i hl
        split at h
        · exact ih.bm G hl h
        · split at h
          · rename_i x px e
            split at h
            · rename_i hx
              simp only [Bool.and_eq_true] at hx
              split at h
              · rename_i i eas hi h1 hp
                have hN : X.N[i]? = some x := by rw [G.eN]; exact ixOf_get hi
                have hv : Vis X.env.scope x := by rw [G.esc]; exact vis_of hx.2
                split at h
                · rename_i hm
                  cases h
                  subst hm
                  exact pe_eappend hN hv (okN_d hx.1) (okN_c hx.1) (ih.es G h1) hp hl
                · split at h
                  · rename_i hm
                    cases h
                    subst hm
                    exact pe_epopAt hN hv (okN_d hx.1) (okN_c hx.1) (ih.es G h1) hp hl
                  · cases h
              · cases h
            · cases h
          · rename_i x px k d
            split at h
            · rename_i hx
              simp only [Bool.and_eq_true, decide_eq_true_eq] at hx
              obtain ⟨⟨⟨⟨hx1, hx2⟩, rfl⟩, hx4⟩, hx5⟩ := hx
              split at h
              · rename_i i ka da hi h1 h2
                cases h
                exact pe_edset (by rw [G.eN]; exact ixOf_get hi) (by rw [G.esc]; exact vis_of hx2) (okN_d hx1) (okN_c hx1) (ih.e G h1) (ih.e G h2) hx4 hx5 hl
              · cases h
            · cases h
          · cases h
      · cases h
    · intro X T W k C cm o m pa pos es ea G hl h
      simp only [reBm] at h
      split at h
      · split at h
        · rename_i hb
          simp only [Bool.and_eq_true, decide_eq_true_eq] at hb
          obtain ⟨hb, hm⟩ := hb
          subst hm
          obtain ⟨x, h1, rfl⟩ := map_some h
          exact pe_ebits (ih.e G h1) (baseB_ok hb _ _ _) hl
        · cases h
      · split at h
        · split at h
          · rename_i x y h1 h2 hp
            simp only [Bool.and_eq_true] at hp
            split at h
            · rename_i hm
              cases h
              subst hm
              exact pe_efind (ih.e G h1) (ih.e G h2) hp.1 (baseB_ok hp.2 _ _ _) hl
            · split at h
              · rename_i hm
                cases h
                subst hm
                exact pe_ecount (ih.e G h1) (ih.e G h2) hp.1 (baseB_ok hp.2 _ _ _) hl
              · split at h
                · rename_i hm
                  cases h
                  subst hm
                  exact pe_eindex G.kk (ih.e G h1) (ih.e G h2) hp.1 (baseB_ok hp.2 _ _ _) hl
                · cases h
          · cases h
        · rename_i b c
          split at h
          · rename_i hx
            simp only [Bool.and_eq_true, decide_eq_true_eq] at hx
            obtain ⟨⟨⟨rfl, hx2⟩, hx3⟩, hx4⟩ := hx
            split at h
            · rename_i x y z h1 h2 h3
              cases h
              exact pe_edget (by have := G.units; omega) (ih.e G h1) (ih.e G h2) (ih.e G h3) hx3 hx4 (baseB_ok hx2 _ _ _) hl
            · cases h
          · cases h
        · cases h
    · intro X T W k C cm e ca G h
      have other : ∀ {e : Expr} {ca : Te}, plainT e = true → (reE C cm n e).map Te.val = some ca → PT X e (tT W T ca) ∧ ∀ op vs pos, e = .BoolOp op vs pos → PW X e (tT W T ca) := fun {e ca} hp h => by
        obtain ⟨x, h1, rfl⟩ := map_some h
        exact ⟨pt_etr G.kk (ih.e G h1) (tr_of hp _), fun op vs pos z => by subst z; cases hp⟩
      cases e with
      | UnaryOp op a p =>
        simp only [reT] at h
        cases op <;> simp only at h <;> try (cases h; done)
        obtain ⟨x, h1, rfl⟩ := map_some h
        exact ⟨pt_enot (ih.t G h1).1, fun op vs pos z => by cases z⟩
      | BoolOp op es p =>
        have main : PW X (.BoolOp op es p) (tT W T ca) := by
          simp only [reT] at h
          split at h
          · cases op
            · exact pw_eand1 (ih.t G h).1
            · exact pw_eor1 (ih.t G h).1
          · split at h
            · rename_i x y h1 h2
              cases op <;> simp only at h <;> cases h
              · exact pw_eand (ih.t G h1).1 ((ih.t G h2).2 _ _ _ rfl)
              · exact pw_eor (ih.t G h1).1 ((ih.t G h2).2 _ _ _ rfl)
            · cases h
          · cases h
        exact ⟨main.pt, fun op vs pos z => main⟩
      | Compare a ops bs p =>
        simp only [reT] at h
        obtain ⟨x, h1, rfl⟩ := map_some h
        refine ⟨?_, fun op vs pos z => by cases z⟩
        cases n with
        | zero => simp [reE] at h1
        | succ m =>
          have ihm := reOk m
          simp only [reE] at h1
          split at h1
          · split at h1
            · rename_i x y g1 g2 hp
              cases h1
              exact pt_ecmp G.kk G.units (ihm.e G g1) (ihm.e G g2) (behind_of hp _)
            · cases h1
          · split at h1
            · rename_i x y z g1 g2 g3 hl
              cases h1
              exact pt_echn G.kk G.units (ihm.e G g1) (ihm.e G g2) (ihm.e G g3) hl
            · cases h1
          · cases h1
      | _ => simp only [reT] at h; split at h <;> first | (rename_i hp; exact other hp h) | cases h
    · intro X T W k C cm tup tg e ia htup G h
      have seq : ∀ {e : Expr} {ia : It}, (reE C cm n e).map It.seq = some ia → PI X tg e (tI W T ia) := fun {e ia} h => by
        obtain ⟨x, h1, rfl⟩ := map_some h
        exact pi_eseq G.kk (ih.e G h1)
      simp only [reI] at h
      split at h
      · rename_i f p es pos
        split at h
        · rename_i hf
          simp only [Bool.and_eq_true, decide_eq_true_eq] at hf
          obtain ⟨rfl, hg⟩ := hf
          split at h
          · split at h
            · rename_i eas h1 hp
              cases h
              exact pi_erng1 (re_len h1) (G.gl hg) (G.blt _ (by decide)) (ih.es G h1) hp
            · cases h
          · split at h
            · rename_i eas h1 hp
              cases h
              simp only [Bool.and_eq_true] at hp
              exact pi_erng2 (re_len h1) (G.gl hg) (G.blt _ (by decide)) (ih.es G h1) hp.1 hp.2
            · cases h
          · cases h
        · split at h
          · rename_i hf
            simp only [Bool.and_eq_true, decide_eq_true_eq] at hf
            obtain ⟨⟨rfl, hg⟩, ht⟩ := hf
            split at h
            · split at h
              · rename_i hp
                obtain ⟨x, h1, rfl⟩ := map_some h
                obtain ⟨elts, kk, tpos, rfl⟩ := htup ht
                exact pi_eenum G.kk (G.gl hg) (G.blt _ (by decide)) (ih.e G h1) hp
              · cases h
            · cases h
          · split at h
            · rename_i hf
              simp only [Bool.and_eq_true, decide_eq_true_eq] at hf
              obtain ⟨rfl, hg⟩ := hf
              split at h
              · split at h
                · rename_i r b hr1
                  obtain ⟨p9, pos9, e9⟩ := rng1_some hr1
                  cases e9
                  split at h
                  · rename_i hx
                    simp only [Bool.and_eq_true, decide_eq_true_eq] at hx
                    obtain ⟨⟨rfl, hgr⟩, hpb⟩ := hx
                    obtain ⟨x, h1, rfl⟩ := map_some h
                    exact pi_erevr rfl (G.gl hg) (G.blt _ (by decide)) (G.gl hgr) (G.blt _ (by decide)) (ih.e G h1) rfl hpb
                  · split at h
                    · rename_i hp
                      obtain ⟨x, h1, rfl⟩ := map_some h
                      exact pi_erev G.kk (G.gl hg) (G.blt _ (by decide)) (ih.e G h1) hp
                    · cases h
                · split at h
                  · rename_i hp
                    obtain ⟨x, h1, rfl⟩ := map_some h
                    exact pi_erev G.kk (G.gl hg) (G.blt _ (by decide)) (ih.e G h1) hp
                  · cases h
              · cases h
            · exact seq h
      · exact seq h
end
end Fin
/-! Fin 15: statements. -/
namespace Fin
open PySem PySem.Spec PyProof.Rows L2
def reNames (C : Cf) : List Expr → Option (List Nat)
  | [] => some []
  | .Name x _ :: es => if locB C.sc x then (match ixOf C.N x, reNames C es with
    | some i, some is => some (i :: is)
    | _, _ => none) else none
  | _ :: _ => none
def reTg (C : Cf) (e : Expr) : Option Tg := match e with
  | .Name x _ => if locB C.sc x then (ixOf C.N x).map .one else none
  | .Tuple es _ _ => (reNames C es).map .many
  | _ => none
def noTup : Expr → Bool
  | .Tuple .. => false
  | e => noComp e
mutual
def reS (C : Cf) (cm : Bool) : Nat → Stmt → Option S
  | 0, _ => none
  | n + 1, st => match st with
    | .Pass _ => some .pass
    | .Break _ => some .brk
    | .Continue _ => some .cnt
    | .Expr e _ => if noComp e then (reE C cm n e).map .expr else none
    | .Return o _ => match o with
      | none => some .retN
      | some e => (reE C cm n e).map .ret
    | .Assign ts v _ => (match ts with
      | [.Name x px] => if locB C.sc x then (match ixOf C.N x with
        | some j => (match v with
          | .ListComp elt gs scope pos => if (px.line == pos.line) && lclB C.sc x && !(scope.names.any fun (n, k) => n == x && (k == .local || k == .cell)) then (match reE C cm n (.ListComp elt gs scope pos) with
            | some ea => some (.set j ea)
            | none => none) else none
          | v => if noComp v then (reE C cm n v).map (.set j) else none)
        | none => none) else none
      | [.Tuple es _ _] => if cm && noTup v then (match reNames C es, reE C cm n v with
        | some is, some ea => some (.unp is ea)
        | _, _ => none) else none
      | [.Subscript (.Name x _) k _] => if okN x && visB C.sc x && plainE k && noComp v then (match ixOf C.N x, reE C cm n k, reE C cm n v with
        | some i, some ka, some va => some (.setIx i ka va)
        | _, _, _ => none) else none
      | _ => none)
    | .AugAssign t op e _ => (match t with
      | .Name x _ => if locB C.sc x && ipOk op then (match ixOf C.N x, reE C cm n e with
        | some i, some ea => some (.aug i op ea)
        | _, _ => none) else none
      | .Subscript (.Name x _) k _ => if okN x && visB C.sc x && plainE k && ipOk op then (match ixOf C.N x, reE C cm n k, reE C cm n e with
        | some i, some ka, some ea => some (.augIx i ka op ea)
        | _, _, _ => none) else none
      | _ => none)
    | .If c a b _ => match reT C cm n c, reSs C cm n a, reSs C cm n b with
      | some c, some x, some y => some (.ite c x y)
      | _, _, _ => none
    | .While c b o _ => if cm then (match o with
      | [] => (match reT C cm n c, reSs C cm n b with
        | some c, some x => some (.whl c x)
        | _, _ => none)
      | _ => none) else none
    | .For tg it b o _ => if cm && plainE it then (match o with
      | [] => (match reTg C tg, reI C cm (isTup tg) n it, reSs C cm n b with
        | some t, some i, some x => some (.for_ t i x)
        | _, _, _ => none)
      | _ => none) else none
    | .Raise e c _ => if cm then (match e, c with
      | some (.Call (.Name x _) [.Constant (.str _) _ _] [] _), none => if glB C.sc x && okN x && C.excs.contains x then some (.raise x) else none
      | _, _ => none) else none
    | .Try b hs o f _ => if cm then (match hs, o, f with
      | [.ExceptHandler (some (.Name c _)) nm (h0 :: h) _], [], [] => if glB C.sc c && okN c && C.excs.contains c then (match reSs C cm n b, reSs C false n (h0 :: h) with
        | some sb, some sh => (match nm with
          | none => some (.tryx sb c sh)
          | some x => if lclB C.sc x then (ixOf C.N x).map fun i => .tryas sb c i sh else none)
        | _, _ => none) else none
      | _, _, _ => none) else none
    | _ => none
def reSs (C : Cf) (cm : Bool) : Nat → List Stmt → Option S
  | 0, _ => none
  | n + 1, ss => match ss with
    | [] => some .pass
    | [st] => reS C cm n st
    | st :: rest => match reS C cm n st, reSs C cm n rest with
      | some a, some b => some (.seq a b)
      | _, _ => none
end
structure GoodS (X : Cx) (T : Tbl) (W : WX) (k : Nat) (C : Cf) (cm : Bool) : Prop extends Good X T W k C cm where
  po : cm = true → PassesOwn (model X.prog X.w) X.A X.env X.xe
  stk : cm = true → X.stack = X.env :: X.outer ∧ X.env.frame = some X.env.locals
  fn : ∀ x, X.fn x = true
section
variable {X : Cx} {T : Tbl} {W : WX} {k : Nat} {C : Cf} {cm : Bool}
theorem names_ok (G : GoodS X T W k C cm) : ∀ {es : List Expr} {is : List Nat}, reNames C es = some is → PGs X es (gAll is) ∧ (assignEach es X.env).length = is.length ∧ (assignEach es X.env).findIdx? (·.1) = none
  | [], is, h => by simp [reNames] at h; subst h; exact ⟨pgs_nil, rfl, rfl⟩
  | e :: es, is, h => by
    cases e <;> simp only [reNames] at h <;> try (cases h; done)
    rename_i x p
    split at h
    · rename_i hl
      split at h
      · rename_i i is' hi hs
        cases h
        obtain ⟨h1, h2, h3⟩ := names_ok G hs
        refine ⟨pgs_cons (pg_name G.nd (by rw [G.eN]; exact ixOf_get hi) (by rw [G.esc]; exact loc_of hl) (.inl (G.fn x))) h1 rfl, ?_, ?_⟩
        · show (assignEach es X.env).length + 1 = _
          rw [h2]; rfl
        · show List.findIdx? (fun x : Bool × (Value → Sem Unit) => x.1) ((false, assign (.Name x p) X.env) :: assignEach es X.env) = none
          rw [List.findIdx?_cons]
          simp [h3]
      · cases h
    · cases h
theorem tg_ok (G : GoodS X T W k C cm) (hcm : cm = true) {e : Expr} {t : Tg} (h : reTg C e = some t) : PG X e (gOf X.K t) := by
  cases e <;> simp only [reTg] at h <;> try (cases h; done)
  · split at h
    · rename_i hl
      obtain ⟨i, hi, rfl⟩ := map_some h
      exact pg_name G.nd (by rw [G.eN]; exact ixOf_get hi) (by rw [G.esc]; exact loc_of hl) (.inl (G.fn _))
    · cases h
  · obtain ⟨is, hi, rfl⟩ := map_some h
    obtain ⟨h1, h2, h3⟩ := names_ok G hi
    exact pg_tup (G.calm hcm) h1 h2 h3
theorem noTup_noComp {e : Expr} (h : noTup e = true) : noComp e = true := by cases e <;> first | exact h | cases h
theorem noTup_sw {e tg : Expr} (h : noTup e = true) (env : PySem.Env) : swappedStores [tg] e env = pure none := by
  cases e <;> first | (cases tg <;> rfl) | cases h
theorem noTup_sole {e tg : Expr} (h : noTup e = true) (l : Nat) (env : PySem.Env) : swapsWithSole [tg] e l env = pure false := swap_of (noTup_noComp h) (some tg) l env
structure ReSOk (n : Nat) : Prop where
  s : ∀ {X : Cx} {T : Tbl} {W : WX} {k N : Nat} {C : Cf} {cm : Bool} {st : Stmt} {sa : S}, GoodS X T W k C cm → reS C cm n st = some sa → PS X st (tS W T N sa)
  ss : ∀ {X : Cx} {T : Tbl} {W : WX} {k N : Nat} {C : Cf} {cm : Bool} {st : List Stmt} {sa : S}, GoodS X T W k C cm → reSs C cm n st = some sa → PSs X st (tS W T N sa)
theorem GoodS.tr (G : GoodS X T W k C cm) (hcm : cm = true) {W' : WX} {pn : List (Addr × Obj)} {xe : Value → Shared → Prop} (tk : Takes (X.tr pn xe) W') (po : PassesOwn (model X.prog X.w) X.A X.env xe) : GoodS (X.tr pn xe) T W' k C cm where
  eN := G.eN
  esc := G.esc
  nd := G.nd
  kd := G.kd
  units := G.units
  calm := G.calm
  room := G.room
  tk := tk
  fns := fun hz f m hm fn hf => let ⟨a, fd, ps, h⟩ := (G.fns hz f m hm fn hf).ex; ⟨⟨a, fd, ps, h⟩⟩
  cons := G.cons
  blt := G.blt
  isx := fun a c h => absurd h (G.noex hcm a c)
  isEs := G.isEs
  noex := G.noex
  kk := G.kk
  excs := fun c hc => let ⟨⟨h1⟩, h2⟩ := G.excs c hc; ⟨⟨h1⟩, h2⟩
  po := fun _ => po
  stk := G.stk
  fn := G.fn
theorem GoodS.suite (G : GoodS X T W k C cm) {a : Addr} {pn : List (Addr × Obj)} {T' : Tbl} (hF : T'.F = T.F) (hc : T'.cls = T.cls) (hE : T'.isE = T.isE) (hK : T'.K = T.K)
    (isx : ∀ b c, T'.ex.r b c → ∃ D, T'.cls c = .ref D ∧ CallR (X.suite a pn) (.builtin "isinstance") (rIsE X.K D b)) : GoodS (X.suite a pn) T' W0 k C false where
  eN := G.eN
  esc := G.esc
  nd := G.nd
  kd := G.kd
  units := G.units
  calm := fun z => Bool.noConfusion z
  room := fun z => Bool.noConfusion z
  tk := takes0
  fns := fun z => Bool.noConfusion z
  cons := by rw [hF, hK]; exact G.cons
  blt := G.blt
  isx := isx
  isEs := by rw [hc, hE]; exact G.isEs
  noex := fun z => Bool.noConfusion z
  kk := hK.trans G.kk
  excs := fun c hcc => by
    obtain ⟨⟨h1⟩, h2⟩ := G.excs c hcc
    rw [hF, hc, hE]
    exact ⟨⟨by rw [hc]; exact h1⟩, h2⟩
  po := fun z => Bool.noConfusion z
  stk := fun z => Bool.noConfusion z
  fn := G.fn
theorem exc_names (G : GoodS X T W k C cm) {c : Str} (hg : glB C.sc c = true) (ho : okN c = true) (hc : c ∈ C.excs) : Names X c (T.cls c) := by
  obtain ⟨⟨Cd, h1, h2, _⟩, _⟩ := G.excs c hc
  exact ⟨G.toGood.gl hg, okN_d ho, .inl (by rw [h1]; exact h2)⟩
theorem reSOk : ∀ n, ReSOk n
  | 0 => by constructor <;> intros <;> rename_i h <;> simp [reS, reSs] at h
  | n + 1 => by
    have ih := reSOk n
    have ie := reOk n
    refine ⟨?_, ?_⟩
    · intro X T W k N C cm st sa G h
      cases st with
      | Pass p => simp only [reS] at h; cases h; exact ps_epass
      | Break p => simp only [reS] at h; cases h; exact ps_ebrk
      | Continue p => simp only [reS] at h; cases h; exact ps_ecnt
      | Expr e p =>
        simp only [reS] at h
        split at h
        · rename_i hp
          obtain ⟨ea, h1, rfl⟩ := map_some h
          exact ps_eexpr (ie.e G.toGood h1) hp
        · cases h
      | Return o p =>
        simp only [reS] at h
        split at h
        · cases h; exact ps_eretN
        · obtain ⟨ea, h1, rfl⟩ := map_some h
          exact ps_eret (ie.e G.toGood h1)
      | Assign ts v p =>
        simp only [reS] at h
        split at h
        · rename_i x px
          split at h
          · rename_i hl
            split at h
            · rename_i j hj
              have hN : X.N[j]? = some x := by rw [G.eN]; exact ixOf_get hj
              have hL : Loc X.env.scope x := by rw [G.esc]; exact loc_of hl
              split at h
              · rename_i elt gs scope pos
                split at h
                · rename_i hc
                  split at h
                  · rename_i ea h1
                    cases h
                    simp only [Bool.and_eq_true, Bool.not_eq_true'] at hc
                    obtain ⟨⟨hc1, hc2⟩, hc3⟩ := hc
                    cases n with
                    | zero => simp [reE] at h1
                    | succ m =>
                      have im := reOk m
                      simp only [reE] at h1
                      split at h1
                      · rename_i hcm
                        split at h1
                        · rename_i y py iter ifs
                          split at h1
                          · rename_i i hi
                            split at h1
                            · rename_i hb
                              split at h1
                              · rename_i it ea' ca g1 g2 g3
                                cases h1
                                simp only [Bool.and_eq_true] at hb
                                obtain ⟨hb, hp⟩ := hb
                                unfold blkB at hb
                                simp only [Bool.and_eq_true] at hb
                                obtain ⟨hb1, hb2⟩ := hb
                                have bk : BlkOk X.N X.env.scope scope [(y, i)] := by rw [G.eN, G.esc]; exact blkOk_by hb1
                                refine ps_esetc (G.calm hcm) G.nd hN (by rw [G.esc]; exact lcl_of hc2) G.kd hc1 hc3 (im.i (fun z => Bool.noConfusion z) G.toGood g1) bk (fun s H A cl fp => ?_) (fun s H A cl fp => im.ifs (G.toGood.blk hcm bk.kind s H A cl fp) g3) (fun s H A cl fp => im.e (G.toGood.blk hcm bk.kind s H A cl fp) g2) hp
                                have hN : (X.blk s H scope (compEnvC scope cl A X.env) fp).N[i]? = some y := by show X.N[i]? = _; rw [G.eN]; exact ixOf_get hi
                                have esc : (X.blk s H scope (compEnvC scope cl A X.env) fp).env.scope = relS scope C.sc := by show relS scope X.env.scope = _; rw [G.esc]
                                simp only [Bool.or_eq_true, Bool.and_eq_true, decide_eq_true_eq] at hb2
                                rcases hb2 with q | ⟨q1, q2⟩
                                · exact pg_name G.nd hN (.inl (by rw [esc]; exact lcl_of q)) (.inr (by rw [esc]; exact lcl_of q))
                                · exact pg_name G.nd hN (by rw [esc]; exact loc_of q1) (.inl (by show (scope.names.lookup y == some .cell) = true; rw [q2]; rfl))
                              · cases h1
                            · cases h1
                          · cases h1
                        · cases h1
                      · cases h1
                  · cases h
                · cases h
              · split at h
                · rename_i hp
                  obtain ⟨ea, h1, rfl⟩ := map_some h
                  exact ps_eset G.nd hN hL (.inl (G.fn x)) (ie.e G.toGood h1) hp
                · cases h
            · cases h
          · cases h
        · split at h
          · rename_i hcm
            simp only [Bool.and_eq_true] at hcm
            split at h
            · rename_i is ea h1 h2
              cases h
              obtain ⟨g1, g2, g3⟩ := names_ok G h1
              exact ps_eunp G.kk (ie.e G.toGood h2) (pg_tup (G.calm hcm.1) g1 g2 g3) (noTup_sole hcm.2 _ _) (noTup_sw hcm.2 _) rfl
            · cases h
          · cases h
        · split at h
          · rename_i hx
            simp only [Bool.and_eq_true] at hx
            split at h
            · rename_i i ka va hi h1 h2
              cases h
              exact ps_esetIx (by have := G.units; omega) (by rw [G.eN]; exact ixOf_get hi) (by rw [G.esc]; exact vis_of hx.1.1.2) (okN_d hx.1.1.1) (okN_c hx.1.1.1) (ie.e G.toGood h1) (ie.e G.toGood h2) hx.1.2 hx.2
            · cases h
          · cases h
        · cases h
      | AugAssign t op e p =>
        simp only [reS] at h
        split at h
        · rename_i x px
          split at h
          · rename_i hx
            simp only [Bool.and_eq_true] at hx
            split at h
            · rename_i i ea hi h1
              cases h
              exact ps_eaug hx.2 G.nd (by rw [G.eN]; exact ixOf_get hi) (by rw [G.esc]; exact loc_of hx.1) (.inl (G.fn x)) (ie.e G.toGood h1)
            · cases h
          · cases h
        · rename_i x px k p2
          split at h
          · rename_i hx
            simp only [Bool.and_eq_true] at hx
            split at h
            · rename_i i ka ea hi h1 h2
              cases h
              exact ps_eaugIx hx.2 (by rw [G.eN]; exact ixOf_get hi) (by rw [G.esc]; exact vis_of hx.1.1.2) (okN_d hx.1.1.1) (okN_c hx.1.1.1) (ie.e G.toGood h1) (ie.e G.toGood h2) hx.1.2
            · cases h
          · cases h
        · cases h
      | If c a b p =>
        simp only [reS] at h
        split at h
        · rename_i c' x y h1 h2 h3
          cases h
          exact ps_eif (ie.t G.toGood h1).1 (ih.ss G h2) (ih.ss G h3)
        · cases h
      | While c b o p =>
        simp only [reS] at h
        split at h
        · rename_i hcm
          split at h
          · split at h
            · rename_i c' x h1 h2
              cases h
              exact ps_ewhl (G.po hcm) (ie.t G.toGood h1).1 (ih.ss G h2)
            · cases h
          · cases h
        · cases h
      | For tg it b o p =>
        simp only [reS] at h
        split at h
        · rename_i hcm
          simp only [Bool.and_eq_true] at hcm
          split at h
          · split at h
            · rename_i t i x h1 h2 h3
              cases h
              exact ps_efor G.kk (G.po hcm.1) (G.calm hcm.1) (ie.i (fun z => by cases tg <;> first | exact ⟨_, _, _, rfl⟩ | cases z) G.toGood h2) (tg_ok G hcm.1 h1) (ih.ss G h3) hcm.2
            · cases h
          · cases h
        · cases h
      | Raise e c p =>
        simp only [reS] at h
        split at h
        · rename_i hcm
          split at h
          · split at h
            · rename_i hx
              cases h
              simp only [Bool.and_eq_true] at hx
              exact ps_eraise (G.calm hcm) G.tk (G.excs _ (by simpa using hx.2)).1 (G.toGood.gl hx.1.1) (okN_d hx.1.2)
            · cases h
          · cases h
        · cases h
      | Try b hs o f p =>
        simp only [reS] at h
        split at h
        · rename_i hcm
          split at h
          · rename_i c np nm h0 hh hp
            split at h
            · rename_i hc
              simp only [Bool.and_eq_true] at hc
              have hce : c ∈ C.excs := by simpa using hc.2
              have hnm := exc_names G hc.1.1 hc.1.2 hce
              obtain ⟨hA, hsub⟩ := G.excs c hce
              split at h
              · rename_i sb sh h1 h2
                split at h
                · cases h
                  exact (ps_try_only (tb := fun W' => tS W' T N sb) (ts := fun _ _ _ => tS W0 T N sh) (G.stk hcm).1 (G.stk hcm).2 hnm G.tk (fun W' pn xe tk po => ih.ss (G.tr hcm tk po) h1)
                    (fun a oe cls d pn hz hf => ih.ss (G.suite rfl rfl rfl rfl fun b c z => absurd z (G.noex hcm b c)) h2)).wk fun E σ H h => tryx_wk (fun x b hb => (hsub x b hb).2.1) h
                · rename_i x
                  split at h
                  · rename_i hl
                    obtain ⟨i, hi, rfl⟩ := map_some h
                    refine (ps_try_as (i := i) (n := x) (tb := fun W' => tS W' T N sb) (ts := fun a cls d E σ H => d = none ∧ tS W0 (T.wx a cls) N sh E σ H) (G.stk hcm).1 (G.stk hcm).2 G.nd (by rw [G.eN]; exact ixOf_get hi) (by show X.env.scope.names.lookup x = _; rw [G.esc]; exact lcl_of hl) hnm G.tk (fun W' pn xe tk po => ih.ss (G.tr hcm tk po) h1)
                      (fun a oe cls d pn hz hf => ?_)).wk fun E σ H h => tryas_wk (G.noex hcm) (fun x b hb => (hsub x b hb).2) h
                    by_cases hd : d = none
                    · subst hd
                      refine (ih.ss (N := N) (T := T.wx a cls) (G.suite rfl rfl rfl rfl fun b c z => ?_) h2).wk fun E σ H h => h.2
                      obtain ⟨rfl, hcl, hE⟩ := z
                      obtain ⟨D, hD, hX⟩ := G.isEs c hE
                      refine ⟨D, hD, ?_⟩
                      have ecls : cls = .ref D := hcl.symm.trans hD
                      subst ecls
                      exact call_isE hX hz hf
                    · exact ⟨fun pins s σ H E I h => absurd h.1 hd⟩
                  · cases h
              · cases h
            · cases h
          · cases h
        · cases h
      | _ => simp only [reS] at h; cases h
    · intro X T W k N C cm st sa G h
      simp only [reSs] at h
      split at h
      · cases h; exact pss_enil
      · exact pss_eone (ih.s G h)
      · split at h
        · rename_i a b h1 h2
          cases h
          exact pss_econs (ih.s G h1) (ih.ss G h2)
        · cases h
end
end Fin
/-! Fin 16: functions. -/
namespace Fin
open PySem PySem.Spec PyProof.Rows L2
/-- what the module says -/
structure Mods (P : Program) (w : World) (K : PySem.W.Frag) (mg : Str → Option Value) (base : Heap) (T : Tbl) (k : Nat) (fns : List (Str × Nat)) (cons excs : List Str) : Prop where
  TK : T.K = K
  fns : ∀ f m, (f, m) ∈ fns → ∀ fn, T.F.fns f = some fn → ∃ a fd ps, mg f = some (.ref a) ∧ PySem.W.keepIn K (.ref a) = true ∧ Binds K fd ps [] ∧ FnOk P w K mg base (L2.CX P w) k a fd ps (spFn T m fn)
  cons : ∀ x ∈ cons, ∀ d, T.F.cons x = some d → ∃ u v, mg x = some u ∧ RelV v u ∧ ∀ S : Hp, Rp T.K S v d
  blt : ∀ b ∈ bltNames, mg b = none
  isEs : ∀ c, T.isE c → ∃ D, T.cls c = .ref D ∧ ExcC K D
  noex : ∀ a c, ¬ T.ex.r a c
  excs : ∀ c ∈ excs, (∃ C, T.cls c = .ref C ∧ mg c = some (.ref C) ∧ PySem.W.excIn K C [.type "ValueError", .type "Exception", .type "BaseException", .type "object"] "ValueError.__new__" = true ∧ PySem.W.keepIn K (.ref C) = true ∧
    PySem.W.subIn K (.ref C) (.type "BaseException") = some true ∧ PySem.W.typeIn K (.ref C) = some (.type "type")) ∧ ∀ x b, T.F.sub x c = some b → PySem.W.kitOne K (T.cls x) (T.cls c) = some b ∧ PySem.W.exmOne K (T.cls x) (T.cls c) = some b ∧ T.isE x
def initE (n : Nat) (cs : List Cell) : Env := cs.map some ++ List.replicate (n - cs.length) none
def runP (T : Fx) (n : Nat) (m : Nat) (s : S) (ds : List D) : Option PRes := match ex T n s (initE m (ds.map .val)) with
  | some (.rt (.d d) _) => some (.ok (.val d))
  | some (.rt (.fr c) _) => some (.ok c)
  | some (.rt (.sl i) env) => match env[i]? with
    | some (some c) => some (.ok c)
    | _ => none
  | some (.nx _) => some (.ok (.val .none))
  | some (.exc c _) => some (.exc c)
  | _ => none
def runM (T : Fx) (n : Nat) (m : Nat) (s : S) (c : Cell) (ds : List D) : Option MRes := match ex { T with lock0 := true } n s (initE m (c :: ds.map .val)) with
  | some (.rt (.d d) env) => match env[0]? with
    | some (some c') => some (.ok (.val d) c')
    | _ => none
  | some (.rt (.fr r) env) => match env[0]? with
    | some (some c') => some (.ok r c')
    | _ => none
  | some (.rt (.sl (i + 1)) env) => match env[i + 1]?, env[0]? with
    | some (some r), some (some c') => some (.ok r c')
    | _, _ => none
  | some (.nx env) => match env[0]? with
    | some (some c') => some (.ok (.val .none) c')
    | _ => none
  | some (.exc e env) => match env[0]? with
    | some (some c') => some (.exc e c')
    | _ => none
  | _ => none
section
variable {P : Program} {w : World} {K : PySem.W.Frag} {mg : Str → Option Value} {base : Heap} {T : Tbl} {k : Nat} {fns : List (Str × Nat)} {cons excs : List Str}
theorem good_def (M : Mods P w K mg base T k fns cons excs) {N ps : List Str} {qual : Str} {sc : Scope} {f : Addr} {cdv : Value} {A : Around} {outer : List PySem.Env} {s : Shared} {H : Hp} {E : XK} (Sc : FnScope N ps sc)
    (hr : Room k (A.deeper (envOfC qual sc s.heap.objs.size f cdv))) : GoodS (cxOf (L2.CX P w) P w K mg base N qual sc f cdv A outer s H E) T (fun cls d _ H => E cls d H) k ⟨N, sc, fns, cons, excs⟩ true where
  kk := M.TK
  eN := rfl
  esc := rfl
  nd := Sc.nd
  kd := Sc.kind
  units := hr.units
  calm := fun _ => rfl
  room := fun _ => hr
  tk := takes_of rfl rfl rfl rfl
  fns := fun _ f m hm fn hf => ⟨M.fns f m hm fn hf⟩
  cons := M.cons
  blt := M.blt
  isx := fun a c h => absurd h (M.noex a c)
  isEs := M.isEs
  noex := fun _ => M.noex
  excs := fun c hc => ⟨⟨(M.excs c hc).1⟩, (M.excs c hc).2⟩
  po := fun _ => passes_of rfl
  stk := fun _ => ⟨rfl, rfl⟩
  fn := fun _ => rfl
theorem init_get {n : Nat} {cs : List Cell} {i : Nat} {c : Cell} (h : (initE n cs)[i]? = some (some c)) : cs[i]? = some c := by
  unfold initE at h
  by_cases hi : i < cs.length
  · rw [List.getElem?_append_left (by simpa using hi), List.getElem?_map] at h
    cases e : cs[i]? with
    | none => rw [e] at h; cases h
    | some z => rw [e] at h; cases h; rfl
  · rw [List.getElem?_append_right (by simpa using Nat.le_of_not_lt hi), List.getElem?_replicate] at h
    split at h <;> cases h
theorem start_get {N : List Str} {vs : List V} {i : Nat} {v : V} (h : vs[i]? = some v) : (L2.start N vs)[i]? = some (some v) := by
  have hi : i < vs.length := (List.getElem?_eq_some_iff.mp h).1
  unfold L2.start
  rw [List.getElem?_append_left (by simpa using hi), List.getElem?_map, h]
  rfl
theorem init_pure {N : List Str} {vs : List V} {ds : List D} {S H : Hp} (p0 : T.ex.p0 = none) (sub : Sub S H) (r : RpAll T.K S vs ds) : St0 T S (fun _ => False) H (L2.start N vs) (initE N.length (ds.map .val)) := by
  refine ⟨fun _ => [], sub, ?_, fun i c e => ?_, fun _ _ _ h => by simp at h, fun _ _ h => by simp at h, fun _ h => h.elim, fun v h => by rw [p0] at h; cases h⟩
  · unfold initE L2.start
    simp [r.length]
  · have e1 := init_get e
    rw [List.getElem?_map] at e1
    cases e2 : ds[i]? with
    | none => rw [e2] at e1; cases e1
    | some d =>
      rw [e2] at e1
      cases e1
      obtain ⟨v, h1, h2⟩ := r.get e2
      exact ⟨v, start_get h1, .val h2⟩
/-- the table of a function that changes its first parameter's object -/
def Tbl.pin (T : Tbl) (v : V) : Tbl := { T with F := { T.F with lock0 := true }, ex := ⟨T.ex.r, some v⟩, lk := fun _ => rfl }
theorem init_mut {N : List Str} {v0 : V} {vs : List V} {c : Cell} {fx : List Addr} {ds : List D} {S H : Hp} (sub : Sub S H) (hc : CellR T.K T.ex.r S H v0 c fx) (ho : ∀ a ∈ fx, S a = none ∧ H a ≠ none) (r : RpAll T.K S vs ds) :
    St0 (T.pin v0) S (fun a => a ∈ fx) H (L2.start N (v0 :: vs)) (initE N.length (c :: ds.map .val)) := by
  refine ⟨fun i => if i = 0 then fx else [], sub, ?_, fun i c' e => ?_, fun i j a h1 h2 => ?_, fun i a h => ?_, ho, fun v h => ?_⟩
  · unfold initE L2.start
    simp [r.length]
  · have e1 := init_get e
    cases i with
    | zero =>
      simp at e1
      subst e1
      exact ⟨v0, start_get rfl, hc⟩
    | succ i =>
      rw [List.getElem?_cons_succ, List.getElem?_map] at e1
      cases e2 : ds[i]? with
      | none => rw [e2] at e1; cases e1
      | some d =>
        rw [e2] at e1
        cases e1
        obtain ⟨v, h1, h2⟩ := r.get e2
        exact ⟨v, start_get (by simpa using h1), .val h2⟩
  · by_cases q1 : i = 0 <;> by_cases q2 : j = 0
    · rw [q1, q2]
    · simp [q2] at h2
    · simp [q1] at h1
    · simp [q1] at h1
  · by_cases q1 : i = 0
    · simpa [q1] using h
    · simp [q1] at h
  · cases h
    exact start_get rfl
/-- a function that changes nothing, by its body -/
theorem pure_ok (M : Mods P w K mg base T k fns cons excs) (p0 : T.ex.p0 = none) {N ps : List Str} {x qual : Str} {st : Stmt} {f : Addr} {fd : FuncData} (Fn : FunD K x qual (defArgs st) (defBody st) (defScope st) [] [] f fd) (Sc : FnScope N ps (defScope st)) {fuel n : Nat} {s : S} (hre : reSs ⟨N, defScope st, fns, cons, excs⟩ true fuel (defBody st) = some s)
    {F : List D → Option PRes} (hF : ∀ ds r, F ds = some r → ds.length = ps.length → runP T.F n N.length s ds = some r) : FnOk P w K mg base (L2.CX P w) (k + 1) f fd ps (spFn T ps.length (.pure F)) := by
  refine FunD.ok (CX := L2.CX P w) Fn Sc (fun vs H Q E h => h.1) (fun cdv A outer sh H vs Q E hr h => ?_)
  obtain ⟨hn, S, ds, r, sub, rr, hf, post⟩ := h
  refine ⟨_, (reSOk fuel).ss (N := n) (good_def M Sc hr) hre, S, fun _ => False, initE N.length (ds.map .val), ?_⟩
  have hrun := hF ds r hf (by rw [← rr.length]; exact hn)
  have st0 : St0 T S (fun _ => False) H (L2.start N vs) (initE N.length (ds.map .val)) := init_pure p0 sub rr
  unfold runP at hrun
  split at hrun
  · rename_i d env q
    cases hrun
    exact ⟨_, st0, q, fun S' O' H' σ' y s' ⟨fp, hE, ry⟩ => post S' O' H' y [] s' hE.sub hE.out (.val ry) fun _ h => by cases h⟩
  · rename_i c env q
    cases hrun
    exact ⟨_, st0, q, fun S' O' H' σ' y s' ⟨fp, hE, fx, hc, ho⟩ => post S' O' H' y fx s' hE.sub hE.out hc fun a ha => (ho a ha).1⟩
  · rename_i i env q
    split at hrun
    · rename_i c e
      cases hrun
      refine ⟨_, st0, q, fun S' O' H' σ' y s' ⟨fp, hE, hy⟩ => ?_⟩
      obtain ⟨v, g, rc⟩ := hE.at_ i c e
      rw [hy] at g
      cases g
      exact post S' O' H' y (fp i) s' hE.sub hE.out rc fun a ha => hE.ow i a ha
    · cases hrun
  · rename_i env q
    cases hrun
    exact ⟨_, st0, q, fun S' O' H' σ' s' ⟨fp, hE⟩ => post S' O' H' .non [] s' hE.sub hE.out (.val .non) fun _ h => by cases h⟩
  · rename_i c env q
    cases hrun
    exact ⟨_, st0, q, fun S' O' H' σ' s' _ => post S' O' H' s'⟩
  · cases hrun
theorem Mods.pin (M : Mods P w K mg base T k fns cons excs) (v : V) : Mods P w K mg base (T.pin v) k fns cons excs := ⟨M.TK, M.fns, M.cons, M.blt, M.isEs, M.noex, M.excs⟩
theorem mut_ok (M : Mods P w K mg base T k fns cons excs) {N ps : List Str} {x qual : Str} {st : Stmt} {f : Addr} {fd : FuncData} (Fn : FunD K x qual (defArgs st) (defBody st) (defScope st) [] [] f fd) (Sc : FnScope N ps (defScope st)) {fuel n : Nat} {s : S} (hre : reSs ⟨N, defScope st, fns, cons, excs⟩ true fuel (defBody st) = some s)
    {F : Cell → List D → Option MRes} (hF : ∀ c ds r, F c ds = some r → ds.length + 1 = ps.length → runM T.F n N.length s c ds = some r) : FnOk P w K mg base (L2.CX P w) (k + 1) f fd ps (spFn T ps.length (.mt F)) := by
  refine FunD.ok (CX := L2.CX P w) Fn Sc (fun vs H Q E h => h.1) (fun cdv A outer sh H vs Q E hr h => ?_)
  obtain ⟨hn, v0, vs', S, c, fx, ds, r, rfl, sub, hc, ho, rr, hf, post⟩ := h
  refine ⟨_, (reSOk fuel).ss (N := n) (good_def (M.pin v0) Sc hr) hre, S, fun a => a ∈ fx, initE N.length (c :: ds.map .val), ?_⟩
  have hrun := hF c ds r hf (by rw [← rr.length]; exact hn)
  have st0 : St0 (T.pin v0) S (fun a => a ∈ fx) H (L2.start N (v0 :: vs')) (initE N.length (c :: ds.map .val)) := init_mut sub hc ho rr
  -- the parameter's slot behind the run holds v0
  have at0 : ∀ {S' : Hp} {O' : Addr → Prop} {H' : Hp} {σ' : L2.St} {env : Env} {fp : Nat → List Addr} {c' : Cell}, EnvR (T.pin v0).K (T.pin v0).ex S' O' H' σ' env fp → env[0]? = some (some c') → CellR T.K T.ex.r S' H' v0 c' (fp 0) := fun {S' O' H' σ' env fp c'} hE e => by
    obtain ⟨v, g, rc⟩ := hE.at_ 0 c' e
    have := hE.p0 v0 rfl
    rw [this] at g
    cases g
    exact rc
  unfold runM at hrun
  split at hrun
  · rename_i d env q
    split at hrun
    · rename_i c' e
      cases hrun
      exact ⟨_, st0, q, fun S' O' H' σ' y s' ⟨fp, hE, ry⟩ => post S' O' H' y [] (fp 0) s' hE.sub hE.out (at0 hE e) (.val ry) (fun a ha => hE.ow 0 a ha) fun _ h => by simp at h⟩
    · cases hrun
  · rename_i rc env q
    split at hrun
    · rename_i c' e
      cases hrun
      exact ⟨_, st0, q, fun S' O' H' σ' y s' ⟨fp, hE, fy, hy, ho⟩ => post S' O' H' y fy (fp 0) s' hE.sub hE.out (at0 hE e) hy (fun a ha => hE.ow 0 a ha) fun a ha => ⟨(ho a ha).1, (ho a ha).2 0⟩⟩
    · cases hrun
  · rename_i i env q
    split at hrun
    · rename_i rc c' e1 e
      cases hrun
      refine ⟨_, st0, q, fun S' O' H' σ' y s' ⟨fp, hE, hy⟩ => ?_⟩
      obtain ⟨v, g, hc'⟩ := hE.at_ (i + 1) rc e1
      rw [hy] at g
      cases g
      exact post S' O' H' y (fp (i + 1)) (fp 0) s' hE.sub hE.out (at0 hE e) hc' (fun a ha => hE.ow 0 a ha) fun a ha => ⟨hE.ow (i + 1) a ha, fun h => by cases hE.dj (i + 1) 0 a ha h⟩
    · cases hrun
  · rename_i env q
    split at hrun
    · rename_i c' e
      cases hrun
      exact ⟨_, st0, q, fun S' O' H' σ' s' ⟨fp, hE⟩ => post S' O' H' .non [] (fp 0) s' hE.sub hE.out (at0 hE e) (.val .non) (fun a ha => hE.ow 0 a ha) fun _ h => by simp at h⟩
    · cases hrun
  · rename_i ec env q
    split at hrun
    · rename_i c' e
      cases hrun
      exact ⟨_, st0, q, fun S' O' H' σ' s' ⟨fp, hE⟩ => post S' O' H' (fp 0) s' hE.sub hE.out (at0 hE e) fun a ha => hE.ow 0 a ha⟩
    · cases hrun
  · cases hrun
end
end Fin
/-! Fin 17: the law's own def, the table that grows. -/
namespace Fin
open PySem PySem.Spec PyProof.Rows L2
/-- a list of the world's own, as data -/
def flI (ns : List Int) : D := .dict [(.none, .list (ns.map PyData.int))]
section
variable {P : Program} {w : World} {K : PySem.W.Frag} {mg : Str → Option Value} {base : Heap} {T : Tbl} {k : Nat} {fns : List (Str × Nat)} {cons excs : List Str}
def spLaw (K : PySem.W.Frag) : Sp := fun vs H Q _ => ∃ (a : Addr) (ns : List Int), vs = [.ref a] ∧ SqL K H a (ns.map V.int) ∧ ns.length ≤ 63 ∧ ∀ H', Q (.bl true) H'
theorem law_of {f : Addr} {fd : FuncData} {F : List D → Option PRes} (TK : T.K = K) (G : FnOk P w K mg base (L2.CX P w) k f fd ["script"] (spFn T 1 (.pure F)))
    (hF : ∀ ns : List Int, ns.length ≤ 63 → F [flI ns] = some (.ok (.val (.bool true)))) : FnOk P w K mg base (L2.CX P w) k f fd ["script"] (spLaw K) := by
  refine G.imp fun vs H Q E h => ?_
  obtain ⟨a, ns, rfl, hS, hl, hQ⟩ := h
  refine ⟨rfl, H, [flI ns], _, Sub.refl H, .cons (.fl (TK ▸ hS) (RpAll.of_ints ns)) .nil, hF ns hl, fun S' O' H' x fx s sub o hc ow => ?_⟩
  cases hc with
  | val r => cases r; exact hQ H'
/-- one more def is known -/
theorem Mods.add (M : Mods P w K mg base T k fns cons excs) {k' : Nat} {f : Str} {m : Nat} (hk : k ≤ k') (h : ∀ fn, T.F.fns f = some fn → ∃ a fd ps, mg f = some (.ref a) ∧ PySem.W.keepIn K (.ref a) = true ∧ Binds K fd ps [] ∧ FnOk P w K mg base (L2.CX P w) k' a fd ps (spFn T m fn)) :
    Mods P w K mg base T k' ((f, m) :: fns) cons excs :=
  ⟨M.TK, fun g m' hg fn hfn => by
    rcases List.mem_cons.mp hg with e | e
    · cases e
      exact h fn hfn
    · obtain ⟨a, fd, ps, h1, h2, h3, h4⟩ := M.fns g m' e fn hfn
      exact ⟨a, fd, ps, h1, h2, h3, h4.mono hk⟩, M.cons, M.blt, M.isEs, M.noex, M.excs⟩
/-- what the top wrote of a def -/
structure DefAt (K : PySem.W.Frag) (mg : Str → Option Value) (x : Str) (st : Stmt) (ps : List Str) (f : Addr) (fd : FuncData) : Prop where
  fn : FunD K x x (defArgs st) (defBody st) (defScope st) [] [] f fd
  mg : mg x = some (.ref f)
  kp : PySem.W.keepIn K (.ref f) = true
  bs : Binds K fd ps []
/-! ### the table that grows, each def run in the table of those before it -/
def Fx.pure (T : Fx) (f : Str) (n m : Nat) (s : S) : Fx := { T with fns := fun g => if g = f then some (.pure (runP T n m s)) else T.fns g }
def Fx.mut (T : Fx) (f : Str) (n m : Nat) (s : S) : Fx := { T with fns := fun g => if g = f then some (.mt (runM T n m s)) else T.fns g }
/-- the same table, one def more -/
def Tbl.to (T : Tbl) (F : Fx) (h : T.ex.p0 = none) : Tbl := { T with F := F, lk := fun n => absurd h n }
theorem Mods.grow (M : Mods P w K mg base T k fns cons excs) {F' : Fx} {f : Str} {m : Nat} {fn : Fn} (p0 : T.ex.p0 = none) (hc : F'.cons = T.F.cons) (hs : F'.sub = T.F.sub) (hf : F'.fns = fun g => if g = f then some fn else T.F.fns g)
    (h : ∃ a fd ps, mg f = some (.ref a) ∧ PySem.W.keepIn K (.ref a) = true ∧ Binds K fd ps [] ∧ FnOk P w K mg base (L2.CX P w) (k + 1) a fd ps (spFn T m fn)) (hn : ∀ m', (f, m') ∉ fns) :
    Mods P w K mg base (T.to F' p0) (k + 1) ((f, m) :: fns) cons excs :=
  ⟨M.TK, fun g m' hg fn' hfn => by
    have hfn : F'.fns g = some fn' := hfn
    rw [hf] at hfn
    rcases List.mem_cons.mp hg with e | e
    · cases e
      simp only [if_true] at hfn
      cases hfn
      exact h
    · have ne : g ≠ f := fun z => by subst z; exact hn _ e
      simp only [ne, if_false] at hfn
      obtain ⟨a, fd, ps, h1, h2, h3, h4⟩ := M.fns g m' e fn' hfn
      exact ⟨a, fd, ps, h1, h2, h3, h4.mono (Nat.le_succ k)⟩, (show ∀ x ∈ cons, ∀ d, F'.cons x = some d → _ by rw [hc]; exact M.cons), M.blt, M.isEs, M.noex, (show ∀ c ∈ excs, _ ∧ ∀ x b, F'.sub x c = some b → _ by rw [hs]; exact M.excs)⟩
theorem Mods.growP (M : Mods P w K mg base T k fns cons excs) (p0 : T.ex.p0 = none) {N ps : List Str} {x : Str} {st : Stmt} {f : Addr} {fd : FuncData} (A : DefAt K mg x st ps f fd) (Sc : FnScope N ps (defScope st)) {fuel n : Nat} {s : S} (hre : reSs ⟨N, defScope st, fns, cons, excs⟩ true fuel (defBody st) = some s)
    (hn : ∀ m', (x, m') ∉ fns) : Mods P w K mg base (T.to (T.F.pure x n N.length s) p0) (k + 1) ((x, ps.length) :: fns) cons excs :=
  M.grow p0 rfl rfl rfl ⟨f, fd, ps, A.mg, A.kp, A.bs, pure_ok M p0 A.fn Sc hre fun _ _ h _ => h⟩ hn
theorem Mods.growM (M : Mods P w K mg base T k fns cons excs) (p0 : T.ex.p0 = none) {N ps : List Str} {x : Str} {st : Stmt} {f : Addr} {fd : FuncData} (A : DefAt K mg x st ps f fd) (Sc : FnScope N ps (defScope st)) {fuel n : Nat} {s : S} (hre : reSs ⟨N, defScope st, fns, cons, excs⟩ true fuel (defBody st) = some s)
    (hn : ∀ m', (x, m') ∉ fns) : Mods P w K mg base (T.to (T.F.mut x n N.length s) p0) (k + 1) ((x, ps.length) :: fns) cons excs :=
  M.grow p0 rfl rfl rfl ⟨f, fd, ps, A.mg, A.kp, A.bs, mut_ok M A.fn Sc hre fun _ _ _ h _ => h⟩ hn
end
end Fin
/-! Fin 18: what the top has written, by names. -/
namespace Fin
open PySem PySem.Spec PyProof.Rows L2
structure Hd where
  cons : List (Str × D)
  excs : List Str
  subs : List ((Str × Str) × Bool)
  defs : List (Str × Stmt)
def conF (p : Str × D) : He.Fa := match p.2 with
  | .str z => .str p.1 z
  | .int i => .int p.1 i
  | _ => .glo "#no"
def dfD (p : Str × Stmt) : He.DefD := ⟨(p.1, none), p.1, p.1, defArgs p.2, defBody p.2, defScope p.2, [], []⟩
def Hd.fa (h : Hd) : List He.Fa := (h.defs.map fun p => He.Fa.glo p.1) ++ (bltNames.map He.Fa.free ++ (h.excs.map He.Fa.glo ++ (h.excs.map He.Fa.exc ++ (h.subs.map (fun p => He.Fa.exm p.1.1 p.1.2 p.2) ++ h.cons.map conF))))
def Hd.fn (h : Hd) : List He.DefD := h.defs.map dfD
def excB (K : PySem.W.Frag) (x : Str) : Bool :=
  He.eqO (PySem.W.findIn K (.ref (He.ga K x)) "__getattribute__") (some (some (.builtin "BaseException.__getattribute__"))) && (He.eqO (PySem.W.findIn K (.ref (He.ga K x)) "__getattr__") (some none) && (decide (PySem.W.subIn K (.ref (He.ga K x)) (.type "BaseException") = some true) && (PySem.W.hasDictIn K (He.ga K x) && (
  He.eqO (PySem.W.findIn K (.ref (He.ga K x)) "__class__") (some (some (.builtin "object.__class__"))) && (He.eqO (PySem.W.specialIn K (.builtin "object.__class__") "__get__") (some (some (.builtin "getset_descriptor.__get__"))) && (decide (PySem.W.takesIn K (.builtin "object.__class__") = some true) && decide (PySem.W.mroIn K (He.ga K x) (.type "object") = some true)))))))
theorem excB_ok {K : PySem.W.Frag} {x : Str} (h : excB K x = true) : ExcC K (He.ga K x) := by
  unfold excB at h
  simp only [Bool.and_eq_true, decide_eq_true_eq] at h
  obtain ⟨h1, h2, h3, h4, h5, h6, h7, h8⟩ := h
  exact ⟨He.eqO_ok h1, He.eqO_ok h2, h3, h4, He.eqO_ok h5, He.eqO_ok h6, h7, h8⟩
/-- another class, or an answer of yes -/
def subB (K : PySem.W.Frag) (p : (Str × Str) × Bool) : Bool := p.2 || !(Value.ref (He.ga K p.1.1) == Value.ref (He.ga K p.1.2))
abbrev AlX : Type := Bool × He.AlD
def obsX (h : Hd) (K : PySem.W.Frag) : AlX := ((h.excs.all fun x => excB K x) && h.subs.all fun p => subB K p, He.obsD h.fa h.fn K)
def valX (h : Hd) : AlX := (true, He.valD h.fn)
def SaysX (h : Hd) (K : PySem.W.Frag) : Prop := obsX h K = valX h
def obsXG (n : Nat) (h : Hd) (g : Addr → Option Obj) : AlX := obsX h (He.frG g (He.asD g n))
def hookX (n : Nat) (h : Hd) : PySem.W.Hook where
  α := AlX
  obs := fun s => obsXG n h s.heap.get?
  val := fun _ => valX h
  says := fun _ hp => ∃ K : PySem.W.Frag, K.In hp ∧ SaysX h K
  of := fun _ _ e => ⟨_, He.frG_in, e⟩
  keeps := fun _ _ _ ⟨K, hK, c⟩ k => ⟨K, PySem.W.Frag.In.keeps hK k, c⟩
theorem obsXG_eq {n : Nat} {h : Hd} {g : Addr → Option Obj} {s : Shared} (hg : ∀ a, g a = s.heap.get? a) : obsXG n h g = (hookX n h).obs s := by
  have e : g = s.heap.get? := funext hg
  rw [e] <;> rfl
section
variable {h : Hd} {K : PySem.W.Frag} {hp : Heap} {mg : Str → Option Value}
theorem SaysX.d (c : SaysX h K) : He.SaysD h.fa h.fn K := congrArg (fun z : AlX => z.2) c
theorem SaysX.b (c : SaysX h K) : (∀ x ∈ h.excs, ExcC K (He.ga K x)) ∧ ∀ p ∈ h.subs, subB K p = true := by
  have c1 : ((h.excs.all fun x => excB K x) && h.subs.all fun p => subB K p) = true := congrArg (fun z : AlX => z.1) c
  obtain ⟨c1, c2⟩ := He.ba c1
  exact ⟨fun x hx => excB_ok (List.all_eq_true.mp c1 x hx), fun p hx => List.all_eq_true.mp c2 p hx⟩
theorem SaysX.fact (c : SaysX h K) {f : He.Fa} (hf : f ∈ h.fa) : f.ok K = true := by
  have c1 := (He.ba (show ((h.fa.all fun f => f.ok K) && h.fn.all fun d => d.ok K) = true from congrArg (fun z : He.AlD => z.1) c.d)).1
  exact List.all_eq_true.mp c1 f hf
theorem SaysX.defAt (c : SaysX h K) (X : K.In hp) (G : hp.Ns mainGlobals mg) (i : Nat) {x : Str} {st : Stmt} {ps : List Str} (hi : h.defs[i]? = some (x, st))
    (hb : ∀ (kV doc pm : Value) (an : Option Addr) (cdv ct : Value) (us : List Value), us.length = ps.length → bindArgs (PySem.W.fnOf x x (defArgs st) (defBody st) (defScope st) .none kV doc pm an cdv ct) ⟨us, []⟩ = pure (ps.zip us)) : ∃ fd, DefAt K mg x st ps (He.ga K x) fd := by
  have hm : (x, st) ∈ h.defs := List.mem_of_getElem? hi
  obtain ⟨fd, F⟩ := c.d.def_ i (d := dfD (x, st)) (by show (h.defs.map dfD)[i]? = _; rw [List.getElem?_map, hi]; rfl)
  have F' : FunD K x x (defArgs st) (defBody st) (defScope st) [] [] (He.ga K x) fd := F
  exact ⟨fd, F', He.glo_ok X G (c.fact (List.mem_append_left _ (List.mem_map.mpr ⟨_, hm, rfl⟩))), F'.kp, FunD.bindsN F' hb⟩
def lkS {α : Type} (l : List (Str × α)) (x : Str) : Option α := l.lookup x
theorem lookup_mem {α β : Type} [BEq α] [LawfulBEq α] {l : List (α × β)} {x : α} {d : β} (h : l.lookup x = some d) : (x, d) ∈ l := by
  induction l with
  | nil => cases h
  | cons p r ih =>
    obtain ⟨y, e⟩ := p
    rw [List.lookup_cons] at h
    split at h
    · rename_i q
      cases h
      rw [eq_of_beq q]
      exact List.mem_cons_self
    · exact List.mem_cons_of_mem _ (ih h)
def Hd.fx (h : Hd) : Fx := ⟨false, fun _ => none, fun x => h.cons.lookup x, fun a b => h.subs.lookup (a, b)⟩
def Hd.tbl (h : Hd) (K : PySem.W.Frag) : Tbl where
  F := h.fx
  K := K
  ex := ⟨fun _ _ => False, none⟩
  lk := fun n => absurd rfl n
  cls := fun c => .ref (He.ga K c)
  isE := fun c => c ∈ h.excs
theorem base_ok {P : Program} {w : World} {base : Heap} (c : SaysX h K) (X : K.In hp) (G : hp.Ns mainGlobals mg) (hs : h.subs.all (fun p => h.excs.contains p.1.1) = true) (hcs : ∀ p ∈ h.cons, scalD p.2 = true ∧ (p.2 = .none ∨ ∃ b, p.2 = .bool b) = False) :
    Mods P w K mg base (h.tbl K) 0 [] (h.cons.map (·.1)) h.excs where
  TK := rfl
  fns := fun f m hm => nomatch hm
  cons := fun x hx d hd => by
    have hm : (x, d) ∈ h.cons := lookup_mem hd
    have hf : (conF (x, d)).ok K = true := c.fact (by
      unfold Hd.fa
      exact List.mem_append_right _ (List.mem_append_right _ (List.mem_append_right _ (List.mem_append_right _ (List.mem_append_right _ (List.mem_map.mpr ⟨_, hm, rfl⟩))))))
    obtain ⟨h1, h2⟩ := hcs _ hm
    cases d with
    | none => simp at h2
    | bool b => simp at h2
    | int i =>
      obtain ⟨t, e⟩ := He.int_ok X G (show (He.Fa.int x i).ok K = true from hf)
      exact ⟨_, .int i, e, ⟨t, rfl⟩, fun S => .int i⟩
    | str z =>
      obtain ⟨t, e⟩ := He.str_ok X G (show (He.Fa.str x z).ok K = true from hf)
      exact ⟨_, .str z, e, ⟨t, rfl⟩, fun S => .str z⟩
    | _ => cases h1
  blt := fun b hb => He.free_ok X G (c.fact (by
    unfold Hd.fa
    exact List.mem_append_right _ (List.mem_append_left _ (List.mem_map.mpr ⟨b, hb, rfl⟩))))
  isEs := fun x hx => ⟨_, rfl, c.b.1 x hx⟩
  noex := fun _ _ z => z
  excs := fun x hx => by
    have h1 := He.glo_ok X G (x := x) (c.fact (by
      unfold Hd.fa
      exact List.mem_append_right _ (List.mem_append_right _ (List.mem_append_left _ (List.mem_map.mpr ⟨x, hx, rfl⟩)))))
    have h2 := He.exc_ok (x := x) (c.fact (by
      unfold Hd.fa
      exact List.mem_append_right _ (List.mem_append_right _ (List.mem_append_right _ (List.mem_append_left _ (List.mem_map.mpr ⟨x, hx, rfl⟩))))))
    refine ⟨⟨_, rfl, h1, h2.1, h2.2.1, h2.2.2.1, h2.2.2.2⟩, fun y b hb => ?_⟩
    have hm : ((y, x), b) ∈ h.subs := lookup_mem hb
    have h3 := He.exm_ok (c.fact (f := .exm y x b) (by
      unfold Hd.fa
      exact List.mem_append_right _ (List.mem_append_right _ (List.mem_append_right _ (List.mem_append_right _ (List.mem_append_left _ (List.mem_map.mpr ⟨_, hm, rfl⟩)))))))
    refine ⟨?_, h3, ?_⟩
    · show PySem.W.kitOne K (.ref (He.ga K y)) (.ref (He.ga K x)) = some b
      have h4 := c.b.2 _ hm
      unfold subB at h4
      unfold PySem.W.kitOne
      unfold PySem.W.exmOne at h3
      split
      · rename_i q
        simp only [q, Bool.not_true, Bool.or_false] at h4
        rw [h4]
      · split at h3
        · exact h3
        · cases h3
    · have h5 := List.all_eq_true.mp hs _ hm
      exact List.contains_iff_mem.mp h5
end

/-! ### the law's end -/
theorem walk_fin {l : PySem.W.OpenLaw} {n k : Nat} {q : Program} {loose : List Str} {XP : (Str → Option Value) → Heap → Prop} {YP : World → Heap → Prop} {d : DefRec} {x : Str}
    (hn : l.most = some n) (hn2 : n ≤ sizeLine) (hn3 : n ≤ 63) (hdf : d.params.defaults = []) (hr : Room k callerA)
    (F : ∀ (w : World) (mg : Str → Option Value) (fa : Addr) (h : Heap), YP w h → h.Ns mainGlobals mg → mg d.name = some (.ref fa) →
      ∃ (K : PySem.W.Frag) (fd : FuncData), K.In h ∧ (∀ (s : Shared) (u : Value), BindsTo s fd ⟨[u], []⟩ [(x, u)]) ∧
        ∀ base : Heap, K.In base → base.Ns mainGlobals mg → FnOk l.prog w K mg base (L2.CX l.prog w) k fa fd [x] (spLaw K)) :
    PySem.W.WalkO q loose XP YP l.row.toRowW d [] (fun f vs => PySem.call f vs) := by
  refine Att.attach_call hn hdf fun w _ _ mg _ fa _ _ _ _ a _ ns G Y _ _ _ hm ho hi hl hg => ?_
  obtain ⟨K, fd, hK, hb, hF⟩ := F w mg fa _ Y G.T.g hm
  exact law_call hK G.T.g G.T.b G.T.builtins G.T.nolimit hg ho hi (Nat.le_trans hl hn2) hr hF hb (fun _ _ hS => ⟨a, ns, rfl, hS, Nat.le_trans hl hn3, fun _ => rfl⟩) fun _ _ _ ⟨_, _, _, _, _, _, _, _, _, _, _, _, h⟩ => h
end Fin
namespace Fin
open PySem
theorem notin_of {x : Str} {fns : List (Str × Nat)} (h : (fns.all fun p => decide (p.1 ≠ x)) = true) : ∀ m', (x, m') ∉ fns := fun m' hm => by
  have := List.all_eq_true.mp h _ hm
  simp at this
section
open PySem.Spec PyProof.Rows L2
variable {P : Program} {w : World} {K : PySem.W.Frag} {mg : Str → Option Value} {base : Heap} {k : Nat} {fns : List (Str × Nat)} {cons excs : List Str}
/-- one def more, over the one table that the head gave: terms stay small -/
theorem growP1 {B : Tbl} {F0 : Fx} {p0 : B.ex.p0 = none} (M : Mods P w K mg base (B.to F0 p0) k fns cons excs) {N ps : List Str} {x : Str} {st : Stmt} {f : Addr} {fd : FuncData} (A : DefAt K mg x st ps f fd) (Sc : FnScope N ps (defScope st)) {fuel n m : Nat} {s : S}
    (hre : reSs ⟨N, defScope st, fns, cons, excs⟩ true fuel (defBody st) = some s) (hn : ∀ m', (x, m') ∉ fns) (hm : N.length = m) {F1 : Fx} (hF : F1 = F0.pure x n m s) {j : Nat} (hj : ps.length = j) : Mods P w K mg base (B.to F1 p0) (k + 1) ((x, j) :: fns) cons excs := by
  subst hm hF hj
  exact M.growP p0 A Sc hre hn
theorem growM1 {B : Tbl} {F0 : Fx} {p0 : B.ex.p0 = none} (M : Mods P w K mg base (B.to F0 p0) k fns cons excs) {N ps : List Str} {x : Str} {st : Stmt} {f : Addr} {fd : FuncData} (A : DefAt K mg x st ps f fd) (Sc : FnScope N ps (defScope st)) {fuel n m : Nat} {s : S}
    (hre : reSs ⟨N, defScope st, fns, cons, excs⟩ true fuel (defBody st) = some s) (hn : ∀ m', (x, m') ∉ fns) (hm : N.length = m) {F1 : Fx} (hF : F1 = F0.mut x n m s) {j : Nat} (hj : ps.length = j) : Mods P w K mg base (B.to F1 p0) (k + 1) ((x, j) :: fns) cons excs := by
  subst hm hF hj
  exact M.growM p0 A Sc hre hn
/-- the law's own def -/
theorem lawP1 {B : Tbl} {F0 : Fx} {p0 : B.ex.p0 = none} (M : Mods P w K mg base (B.to F0 p0) k fns cons excs) (hK : B.K = K) {N : List Str} {x : Str} {st : Stmt} {f : Addr} {fd : FuncData} (A : DefAt K mg x st ["script"] f fd) (Sc : FnScope N ["script"] (defScope st)) {fuel n m : Nat} {s : S}
    (hre : reSs ⟨N, defScope st, fns, cons, excs⟩ true fuel (defBody st) = some s) (hm : N.length = m) (hF : ∀ ns : List Int, ns.length ≤ 63 → runP F0 n m s [flI ns] = some (.ok (.val (.bool true)))) : FnOk P w K mg base (L2.CX P w) (k + 1) f fd ["script"] (spLaw K) := by
  subst hm
  have G := pure_ok M p0 A.fn Sc (n := n) hre (F := fun ds => runP F0 n N.length s ds) (fun _ _ h _ => h)
  exact law_of hK G hF
end
end Fin
/-! Fin 19: loops over data; the laws' own draws. -/
namespace Fin
open PySem PySem.Spec PyProof.Rows L2
theorem shp_int (i : Int) : shp (.int i) = true := by simp [shp, SeqAt.shaped, PyData.canLay0, PyData.depth]
theorem shp_bool (i : Bool) : shp (.bool i) = true := by simp [shp, SeqAt.shaped, PyData.canLay0, PyData.depth]
theorem shp_none : shp .none = true := by simp [shp, SeqAt.shaped, PyData.canLay0, PyData.depth]
theorem eqv_int (i j : Int) : PyData.eqv (.int i) (.int j) = decide (i = j) := by simp [PyData.eqv]; rfl
theorem eqv_bool (i j : Bool) : PyData.eqv (.bool i) (.bool j) = (i == j) := by simp [PyData.eqv]
theorem eqv_bi (i : Bool) (j : Int) : PyData.eqv (.bool i) (.int j) = ((if i then 1 else 0) == j) := by simp [PyData.eqv]
theorem eqv_ib (i : Int) (j : Bool) : PyData.eqv (.int i) (.bool j) = (i == (if j then 1 else 0)) := by simp [PyData.eqv]
theorem atI_0 {α : Type} (a : α) (l : List α) : L2.atI (a :: l) 0 = some a := L2.atI_nat (j := 0) rfl
theorem atI_1 {α : Type} (a b : α) (l : List α) : L2.atI (a :: b :: l) 1 = some b := L2.atI_nat (j := 1) rfl
theorem atI_2 {α : Type} (a b c : α) (l : List α) : L2.atI (a :: b :: c :: l) 2 = some c := L2.atI_nat (j := 2) rfl
theorem atI_3 {α : Type} (a b c d : α) (l : List α) : L2.atI (a :: b :: c :: d :: l) 3 = some d := L2.atI_nat (j := 3) rfl
end Fin
namespace Fin
open PySem PySem.Spec PyProof.Rows L2
theorem line_v : line = 16777216 := rfl
theorem seq_nx {T : Fx} {n : Nat} {a b : S} {env e1 : Env} (h : ex T n a env = some (.nx e1)) : ex T n (.seq a b) env = ex T n b e1 := by simp only [ex, h]
theorem forL_nil {T : Fx} {t : Tg} {f : Env → Option Out} {env : Env} : forL T t f [] env = some (.nx env) := by simp [forL]
theorem forL_cons {T : Fx} {t : Tg} {f : Env → Option Out} {d : D} {ds : List D} {env e1 e2 : Env} (h1 : bindT T t d env = some e1) (h2 : f e1 = some (.nx e2) ∨ f e1 = some (.ct e2)) : forL T t f (d :: ds) env = forL T t f ds e2 := by
  rw [forL, h1]
  rcases h2 with h2 | h2 <;> simp [h2]
/-- a loop that keeps I of what is left -/
theorem forL_inv {T : Fx} {t : Tg} {f : Env → Option Out} (I : List D → Env → Prop) : ∀ (ds : List D) (env : Env), I ds env →
    (∀ d ds e, I (d :: ds) e → ∃ e1 e2, bindT T t d e = some e1 ∧ (f e1 = some (.nx e2) ∨ f e1 = some (.ct e2)) ∧ I ds e2) → ∃ env', forL T t f ds env = some (.nx env') ∧ I [] env'
  | [], env, h, _ => ⟨env, forL_nil, h⟩
  | d :: ds, env, h, k => by
    obtain ⟨e1, e2, h1, h2, h3⟩ := k d ds env h
    rw [forL_cons h1 h2]
    exact forL_inv I ds e2 h3 k
/-- .. that keeps I at each place -/
theorem forL_at {T : Fx} {t : Tg} {f : Env → Option Out} (ds : List D) (I : Nat → Env → Prop) {env : Env} (h0 : I 0 env)
    (k : ∀ (j : Nat) (d : D) (e : Env), ds[j]? = some d → I j e → ∃ e1 e2, bindT T t d e = some e1 ∧ (f e1 = some (.nx e2) ∨ f e1 = some (.ct e2)) ∧ I (j + 1) e2) : ∃ env', forL T t f ds env = some (.nx env') ∧ I ds.length env' := by
  obtain ⟨env', h1, j, h2, h3⟩ := forL_inv (T := T) (t := t) (f := f) (fun l e => ∃ j, l = ds.drop j ∧ j ≤ ds.length ∧ I j e) ds env ⟨0, by simp, Nat.zero_le _, h0⟩ fun d l e ⟨j, e1, hj, hI⟩ => by
    have hd : ds[j]? = some d := by
      have := congrArg (fun l => l[0]?) e1
      simpa using this.symm
    have hlt : j < ds.length := (List.getElem?_eq_some_iff.mp hd).1
    obtain ⟨e1', e2', a, b, c⟩ := k j d e hd hI
    refine ⟨e1', e2', a, b, j + 1, ?_, hlt, c⟩
    rw [List.drop_eq_getElem_cons hlt] at e1
    exact (List.cons.inj e1).2
  have : j = ds.length := by
    have := congrArg List.length h2
    simp at this
    omega
  subst this
  exact ⟨env', h1, h3.2⟩
/-- .. or leaves by a return that I allows -/
theorem fmod_pos {a b : Int} (hb : 0 < b) : 0 ≤ a.fmod b ∧ a.fmod b < b := ⟨Int.fmod_nonneg_of_pos _ hb, Int.fmod_lt_of_pos _ hb⟩

def bNumIn : S := (.ite (.and (.val (.cmp .Gt (.var 5) (.c (.int 0)))) (.val (.cmp .Lt (.bi .len (.cons (.var 3) .nil)) (.var 2)))) (.seq (.expr (.mm .append 3 (.cons (.bin .Mod (.bi .int (.cons (.var 5) .nil)) (.c (.int 4096))) .nil))) (.set 5 (.bin .FloorDiv (.var 5) (.c (.int 4096))))) .pass)
def xM1 : E := (.bin .Mod (.bi .int (.cons (.bin .Add (.bin .Add (.bin .Mult (.var 5) (.c (.int 48271))) (.bin .Mult (.var 4) (.c (.int 69621)))) (.c (.int 12345))) .nil)) (.c (.int 2147483647)))
def xM2 : E := (.bin .Mod (.bi .int (.cons (.bin .Add (.bin .Mult (.var 7) (.c (.int 69621))) (.bin .FloorDiv (.var 7) (.c (.int 1009)))) .nil)) (.c (.int 1000003)))
def bNumOut : S := (.seq (.set 5 (.bi .abs (.cons (.ix (.var 0) (.var 4)) .nil))) (.ite (.val (.cmp .GtE (.var 5) (.c (.int 1000000000000000000)))) (.for_ (.one 6) (.rng (.cons (.c (.int 60)) .nil)) bNumIn) (.ite (.val (.cmp .Lt (.bi .len (.cons (.var 3) .nil)) (.var 2))) (.seq (.set 7 xM1) (.seq (.set 7 xM2) (.expr (.mm .append 3 (.cons (.bin .Mod (.bi .int (.cons (.var 7) .nil)) (.c (.int 4096))) .nil))))) .pass)))
def sNumbers : S := (.seq (.set 3 (.lst .nil)) (.seq (.for_ (.one 4) (.rng (.cons (.var 1) (.cons (.bi .len (.cons (.var 0) .nil)) .nil))) bNumOut) (.ret (.var 3))))
def sPool : S := (.ret (.lst (.cons (.bin .Add (.call "_law_numbers" (.cons (.var 0) (.cons (.c (.int 0)) (.cons (.c (.int 240)) .nil)))) (.lst (.cons (.c (.int 5)) .nil))) (.cons (.c (.int 0)) .nil))))
def sPick : S := (.seq (.set 2 (.ix (.var 0) (.c (.int 1)))) (.seq (.setIx 0 (.c (.int 1)) (.bin .Add (.var 2) (.c (.int 1)))) (.seq (.set 3 (.bin .FloorDiv (.var 2) (.bi .len (.cons (.ix (.var 0) (.c (.int 0))) .nil)))) (.ret (.bin .Mod (.bi .int (.cons (.bin .Add (.bin .Add (.ix (.ix (.var 0) (.c (.int 0))) (.bin .Mod (.bi .int (.cons (.var 2) .nil)) (.bi .len (.cons (.ix (.var 0) (.c (.int 0))) .nil)))) (.bin .Mult (.var 3) (.c (.int 1009)))) (.bin .Mult (.var 3) (.var 2))) .nil)) (.var 1))))))

/-- the numbers found so far -/
def Fnd (ms : List Int) : Prop := ms.length ≤ 240 ∧ ∀ m ∈ ms, 0 ≤ m ∧ m < 4096
theorem Fnd.snoc {ms : List Int} {m : Int} (h : Fnd ms) (hl : ms.length < 240) (h1 : 0 ≤ m) (h2 : m < 4096) : Fnd (ms ++ [m]) := ⟨by simp; omega, fun x hx => by
  rcases List.mem_append.mp hx with h3 | h3
  · exact h.2 x h3
  · simp at h3; subst h3; exact ⟨h1, h2⟩⟩
def eN (ns ms : List Int) (c4 c5 c6 c7 : Option Cell) : Env := [some (.val (flI ns)), some (.val (.int 0)), some (.val (.int 240)), some (.lst (ms.map PyData.int)), c4, c5, c6, c7]
theorem num_in (T : Fx) (n : Nat) (ns : List Int) : ∀ (ds : List D) (ms : List Int) (c4 c6 c7 : Option Cell) (cell : Int), Fnd ms → 0 ≤ cell → ∃ ms' cell' c6', Fnd ms' ∧ forL T (.one 6) (ex T n bNumIn) ds (eN ns ms c4 (some (.val (.int cell))) c6 c7) = some (.nx (eN ns ms' c4 (some (.val (.int cell'))) c6' c7)) := by
    intro ds ms c4 c6 c7 cell hf hc
    obtain ⟨env', h1, ms', cell', c6', rfl, h2, h3⟩ := forL_inv (T := T) (t := .one 6) (f := ex T n bNumIn)
      (fun _ e => ∃ ms cell c6, e = eN ns ms c4 (some (.val (.int cell))) c6 c7 ∧ Fnd ms ∧ 0 ≤ cell) ds (eN ns ms c4 (some (.val (.int cell))) c6 c7) ⟨ms, cell, c6, rfl, hf, hc⟩ fun d ds e ⟨ms, cell, c6, he, hf, hc⟩ => by
        subst he
        have b1 : ms.length < 16777216 := by have := hf.1; omega
        by_cases p1 : 0 < cell
        · by_cases p2 : (ms.length : Int) < 240
          · refine ⟨_, eN ns (ms ++ [cell.fmod 4096]) c4 (some (.val (.int (cell.fdiv 4096)))) (some (.val d)) c7, by simp [bindT, okS]; rfl, .inl ?_, _, _, _, rfl, hf.snoc (by omega) (fmod_pos (by omega)).1 (fmod_pos (by omega)).2, Int.fdiv_nonneg hc (by omega)⟩
            simp [Fin.initE, Fin.ex, Fin.ev, Fin.evt, Fin.evs, Fin.evx, Fin.evi, Fin.Res.o, Fin.bndR, Fin.ofO, Fin.res, Fin.resL, Fin.frzS, Fin.bindL, Fin.bindT, Fin.okS, Fin.scalD, Fin.cmpD, Fin.biD, Fin.biLen, Fin.biInt, Fin.biAbs, Fin.dVal, Fin.RsT.of, Fin.truD, Fin.binD, Fin.binI, Fin.unD, Fin.mmD, Fin.mmAppend, Fin.isLst, Fin.isOwn, Fin.flI, Fin.flOf, Fin.ixD, Fin.callF, Fin.asVal, Fin.scalC, Fin.isVal, Fin.hasSl, Fin.setC, Fin.mulOk, Fin.Cell.frz, Fin.isiD, Fin.shp_int, Fin.shp_bool, Fin.shp_none, Fin.eqv_int, Fin.eqv_bool, Fin.eqv_bi, Fin.eqv_ib, Fin.atI_0, Fin.atI_1, Fin.atI_2, Fin.atI_3, Fin.isND, bNumIn, eN, p1, p2, b1, line_v]
          · refine ⟨_, eN ns ms c4 (some (.val (.int cell))) (some (.val d)) c7, by simp [bindT, okS]; rfl, .inl ?_, _, _, _, rfl, hf, hc⟩
            simp [Fin.initE, Fin.ex, Fin.ev, Fin.evt, Fin.evs, Fin.evx, Fin.evi, Fin.Res.o, Fin.bndR, Fin.ofO, Fin.res, Fin.resL, Fin.frzS, Fin.bindL, Fin.bindT, Fin.okS, Fin.scalD, Fin.cmpD, Fin.biD, Fin.biLen, Fin.biInt, Fin.biAbs, Fin.dVal, Fin.RsT.of, Fin.truD, Fin.binD, Fin.binI, Fin.unD, Fin.mmD, Fin.mmAppend, Fin.isLst, Fin.isOwn, Fin.flI, Fin.flOf, Fin.ixD, Fin.callF, Fin.asVal, Fin.scalC, Fin.isVal, Fin.hasSl, Fin.setC, Fin.mulOk, Fin.Cell.frz, Fin.isiD, Fin.shp_int, Fin.shp_bool, Fin.shp_none, Fin.eqv_int, Fin.eqv_bool, Fin.eqv_bi, Fin.eqv_ib, Fin.atI_0, Fin.atI_1, Fin.atI_2, Fin.atI_3, Fin.isND, bNumIn, eN, p1, p2, b1, line_v]
        · refine ⟨_, eN ns ms c4 (some (.val (.int cell))) (some (.val d)) c7, by simp [bindT, okS]; rfl, .inl ?_, _, _, _, rfl, hf, hc⟩
          simp [Fin.initE, Fin.ex, Fin.ev, Fin.evt, Fin.evs, Fin.evx, Fin.evi, Fin.Res.o, Fin.bndR, Fin.ofO, Fin.res, Fin.resL, Fin.frzS, Fin.bindL, Fin.bindT, Fin.okS, Fin.scalD, Fin.cmpD, Fin.biD, Fin.biLen, Fin.biInt, Fin.biAbs, Fin.dVal, Fin.RsT.of, Fin.truD, Fin.binD, Fin.binI, Fin.unD, Fin.mmD, Fin.mmAppend, Fin.isLst, Fin.isOwn, Fin.flI, Fin.flOf, Fin.ixD, Fin.callF, Fin.asVal, Fin.scalC, Fin.isVal, Fin.hasSl, Fin.setC, Fin.mulOk, Fin.Cell.frz, Fin.isiD, Fin.shp_int, Fin.shp_bool, Fin.shp_none, Fin.eqv_int, Fin.eqv_bool, Fin.eqv_bi, Fin.eqv_ib, Fin.atI_0, Fin.atI_1, Fin.atI_2, Fin.atI_3, Fin.isND, bNumIn, eN, p1, b1, line_v]
    exact ⟨ms', cell', c6', h2, h1⟩
theorem mix1 (T : Fx) (a b c d f g : Option Cell) (cell j m : Int) (e : (cell * 48271 + j * 69621 + 12345).fmod 2147483647 = m) : ev T xM1 [a, b, c, d, some (.val (.int j)), some (.val (.int cell)), f, g] = some (.ok (.d (.int m)) [a, b, c, d, some (.val (.int j)), some (.val (.int cell)), f, g]) := by
  simp [Fin.initE, Fin.ex, Fin.ev, Fin.evt, Fin.evs, Fin.evx, Fin.evi, Fin.Res.o, Fin.bndR, Fin.ofO, Fin.res, Fin.resL, Fin.frzS, Fin.bindL, Fin.bindT, Fin.okS, Fin.scalD, Fin.cmpD, Fin.biD, Fin.biLen, Fin.biInt, Fin.biAbs, Fin.dVal, Fin.RsT.of, Fin.truD, Fin.binD, Fin.binI, Fin.unD, Fin.mmD, Fin.mmAppend, Fin.isLst, Fin.isOwn, Fin.flI, Fin.flOf, Fin.ixD, Fin.callF, Fin.asVal, Fin.scalC, Fin.isVal, Fin.hasSl, Fin.setC, Fin.mulOk, Fin.Cell.frz, Fin.isiD, Fin.shp_int, Fin.shp_bool, Fin.shp_none, Fin.eqv_int, Fin.eqv_bool, Fin.eqv_bi, Fin.eqv_ib, Fin.atI_0, Fin.atI_1, Fin.atI_2, Fin.atI_3, Fin.isND, xM1, e]
theorem mix2 (T : Fx) (a b c d f g h : Option Cell) (cell m : Int) (e : (cell * 69621 + cell.fdiv 1009).fmod 1000003 = m) : ev T xM2 [a, b, c, d, f, g, h, some (.val (.int cell))] = some (.ok (.d (.int m)) [a, b, c, d, f, g, h, some (.val (.int cell))]) := by
  simp [Fin.initE, Fin.ex, Fin.ev, Fin.evt, Fin.evs, Fin.evx, Fin.evi, Fin.Res.o, Fin.bndR, Fin.ofO, Fin.res, Fin.resL, Fin.frzS, Fin.bindL, Fin.bindT, Fin.okS, Fin.scalD, Fin.cmpD, Fin.biD, Fin.biLen, Fin.biInt, Fin.biAbs, Fin.dVal, Fin.RsT.of, Fin.truD, Fin.binD, Fin.binI, Fin.unD, Fin.mmD, Fin.mmAppend, Fin.isLst, Fin.isOwn, Fin.flI, Fin.flOf, Fin.ixD, Fin.callF, Fin.asVal, Fin.scalC, Fin.isVal, Fin.hasSl, Fin.setC, Fin.mulOk, Fin.Cell.frz, Fin.isiD, Fin.shp_int, Fin.shp_bool, Fin.shp_none, Fin.eqv_int, Fin.eqv_bool, Fin.eqv_bi, Fin.eqv_ib, Fin.atI_0, Fin.atI_1, Fin.atI_2, Fin.atI_3, Fin.isND, xM2, e]
theorem num_out (T : Fx) (n : Nat) (ns : List Int) (hns : ns.length ≤ 63) : ∃ env', forL T (.one 4) (ex T n bNumOut)
      ((List.range ((ns.length : Int) - 0).toNat).map fun (k : Nat) => PyData.int (0 + (k : Int))) (eN ns [] none none none none) = some (.nx env') ∧ ∃ ms c4 c5 c6 c7, env' = eN ns ms c4 c5 c6 c7 ∧ Fnd ms := by
    refine forL_at _ (fun _ e => ∃ ms c4 c5 c6 c7, e = eN ns ms c4 c5 c6 c7 ∧ Fnd ms) ⟨[], none, none, none, none, rfl, Nat.zero_le _, fun _ h => by simp at h⟩ fun j d e hd ⟨ms, c4, c5, c6, c7, he, hf⟩ => ?_
    subst he
    have hj : j < ns.length := by
      have := (List.getElem?_eq_some_iff.mp hd).1
      simpa using this
    have hd' : d = .int (0 + (j : Int)) := by
      rw [List.getElem?_map, List.getElem?_range (by simpa using hj)] at hd
      cases hd
      rfl
    subst hd'
    have ga : L2.atI (ns.map PyData.int) (j : Int) = some (.int ns[j]) := by
      rw [L2.atI_nat (j := j) (by rw [List.getElem?_map, List.getElem?_eq_getElem hj]; rfl)]
    have b1 : ms.length < 16777216 := by have := hf.1; omega
    generalize hx : ns[j] = x at ga
    generalize hcell : (if x < 0 then -x else x) = cell
    have hc0 : 0 ≤ cell := by rw [← hcell]; split <;> omega
    by_cases p0 : 1000000000000000000 ≤ cell
    · obtain ⟨ms', cell', c6', hf', hrun⟩ := num_in T n ns ((List.range 60).map fun (k : Nat) => PyData.int (0 + (k : Int))) ms (some (.val (.int (j : Int)))) c6 c7 cell hf hc0
      refine ⟨eN ns ms (some (.val (.int (j : Int)))) c5 c6 c7, eN ns ms' (some (.val (.int (j : Int)))) (some (.val (.int cell'))) c6' c7, by simp [bindT, okS, eN], .inl ?_, _, _, _, _, _, rfl, hf'⟩
      simp [Fin.initE, Fin.ex, Fin.ev, Fin.evt, Fin.evs, Fin.evx, Fin.evi, Fin.Res.o, Fin.bndR, Fin.ofO, Fin.res, Fin.resL, Fin.frzS, Fin.bindL, Fin.bindT, Fin.okS, Fin.scalD, Fin.cmpD, Fin.biD, Fin.biLen, Fin.biInt, Fin.biAbs, Fin.dVal, Fin.RsT.of, Fin.truD, Fin.binD, Fin.binI, Fin.unD, Fin.mmD, Fin.mmAppend, Fin.isLst, Fin.isOwn, Fin.flI, Fin.flOf, Fin.ixD, Fin.callF, Fin.asVal, Fin.scalC, Fin.isVal, Fin.hasSl, Fin.setC, Fin.mulOk, Fin.Cell.frz, Fin.isiD, Fin.shp_int, Fin.shp_bool, Fin.shp_none, Fin.eqv_int, Fin.eqv_bool, Fin.eqv_bi, Fin.eqv_ib, Fin.atI_0, Fin.atI_1, Fin.atI_2, Fin.atI_3, Fin.isND, bNumOut, eN, ga, hcell, p0]
      simpa [eN, flI] using hrun
    · by_cases p2 : (ms.length : Int) < 240
      · have hlt : ms.length < 240 := by exact_mod_cast p2
        obtain ⟨m1, e1⟩ : ∃ m, (cell * 48271 + (j : Int) * 69621 + 12345).fmod 2147483647 = m := ⟨_, rfl⟩
        obtain ⟨m2, e2⟩ : ∃ m, (m1 * 69621 + m1.fdiv 1009).fmod 1000003 = m := ⟨_, rfl⟩
        obtain ⟨m3, e3⟩ : ∃ m, m2.fmod 4096 = m := ⟨_, rfl⟩
        have e4 : 0 ≤ m3 ∧ m3 < 4096 := by rw [← e3]; exact fmod_pos (by decide)
        refine ⟨eN ns ms (some (.val (.int (j : Int)))) c5 c6 c7, eN ns (ms ++ [m3]) (some (.val (.int (j : Int)))) (some (.val (.int cell))) c6 (some (.val (.int m2))), by simp [bindT, okS, eN], .inl ?_, _, _, _, _, _, rfl, hf.snoc hlt e4.1 e4.2⟩
        simp [Fin.initE, Fin.ex, Fin.ev, Fin.evt, Fin.evs, Fin.evx, Fin.evi, Fin.Res.o, Fin.bndR, Fin.ofO, Fin.res, Fin.resL, Fin.frzS, Fin.bindL, Fin.bindT, Fin.okS, Fin.scalD, Fin.cmpD, Fin.biD, Fin.biLen, Fin.biInt, Fin.biAbs, Fin.dVal, Fin.RsT.of, Fin.truD, Fin.binD, Fin.binI, Fin.unD, Fin.mmD, Fin.mmAppend, Fin.isLst, Fin.isOwn, Fin.flI, Fin.flOf, Fin.ixD, Fin.callF, Fin.asVal, Fin.scalC, Fin.isVal, Fin.hasSl, Fin.setC, Fin.mulOk, Fin.Cell.frz, Fin.isiD, Fin.shp_int, Fin.shp_bool, Fin.shp_none, Fin.eqv_int, Fin.eqv_bool, Fin.eqv_bi, Fin.eqv_ib, Fin.atI_0, Fin.atI_1, Fin.atI_2, Fin.atI_3, Fin.isND, bNumOut, eN, ga, hcell, p0, p2, b1, line_v, mix1 T _ _ _ _ _ _ cell j m1 e1, mix2 T _ _ _ _ _ _ _ m1 m2 e2, e3]
      · refine ⟨eN ns ms (some (.val (.int (j : Int)))) c5 c6 c7, eN ns ms (some (.val (.int (j : Int)))) (some (.val (.int cell))) c6 c7, by simp [bindT, okS, eN], .inl ?_, _, _, _, _, _, rfl, hf⟩
        simp [Fin.initE, Fin.ex, Fin.ev, Fin.evt, Fin.evs, Fin.evx, Fin.evi, Fin.Res.o, Fin.bndR, Fin.ofO, Fin.res, Fin.resL, Fin.frzS, Fin.bindL, Fin.bindT, Fin.okS, Fin.scalD, Fin.cmpD, Fin.biD, Fin.biLen, Fin.biInt, Fin.biAbs, Fin.dVal, Fin.RsT.of, Fin.truD, Fin.binD, Fin.binI, Fin.unD, Fin.mmD, Fin.mmAppend, Fin.isLst, Fin.isOwn, Fin.flI, Fin.flOf, Fin.ixD, Fin.callF, Fin.asVal, Fin.scalC, Fin.isVal, Fin.hasSl, Fin.setC, Fin.mulOk, Fin.Cell.frz, Fin.isiD, Fin.shp_int, Fin.shp_bool, Fin.shp_none, Fin.eqv_int, Fin.eqv_bool, Fin.eqv_bi, Fin.eqv_ib, Fin.atI_0, Fin.atI_1, Fin.atI_2, Fin.atI_3, Fin.isND, bNumOut, eN, ga, hcell, p0, p2, b1, line_v]
theorem numbers_ok (T : Fx) (n : Nat) (ns : List Int) (hns : ns.length ≤ 63) : ∃ ms : List Int, runP T n 8 sNumbers [flI ns, .int 0, .int 240] = some (.ok (.lst (ms.map PyData.int))) ∧ Fnd ms := by
  obtain ⟨env', hrun, ms, c4, c5, c6, c7, rfl, hf⟩ := num_out T n ns hns
  refine ⟨ms, ?_, hf⟩
  unfold runP sNumbers
  simp [eN, flI] at hrun
  have b1 : (-1000000 : Int) ≤ ns.length ∧ (ns.length : Int) ≤ 1000000 := by omega
  simp [Fin.initE, Fin.ex, Fin.ev, Fin.evt, Fin.evs, Fin.evx, Fin.evi, Fin.Res.o, Fin.bndR, Fin.ofO, Fin.res, Fin.resL, Fin.frzS, Fin.bindL, Fin.bindT, Fin.okS, Fin.scalD, Fin.cmpD, Fin.biD, Fin.biLen, Fin.biInt, Fin.biAbs, Fin.dVal, Fin.RsT.of, Fin.truD, Fin.binD, Fin.binI, Fin.unD, Fin.mmD, Fin.mmAppend, Fin.isLst, Fin.isOwn, Fin.flI, Fin.flOf, Fin.ixD, Fin.callF, Fin.asVal, Fin.scalC, Fin.isVal, Fin.hasSl, Fin.setC, Fin.mulOk, Fin.Cell.frz, Fin.isiD, Fin.shp_int, Fin.shp_bool, Fin.shp_none, Fin.eqv_int, Fin.eqv_bool, Fin.eqv_bi, Fin.eqv_ib, Fin.atI_0, Fin.atI_1, Fin.atI_2, Fin.atI_3, Fin.isND, b1, hrun]
/-- behind the pool: its numbers, the place -/
def poolC (ms : List Int) (at_ : Int) : Cell := .lst [.list (ms.map PyData.int), .int at_]
def Pool (ms : List Int) : Prop := 0 < ms.length ∧ ms.length ≤ 241 ∧ ∀ m ∈ ms, 0 ≤ m ∧ m < 4096
theorem pool_ok (T T' : Fx) (n n' : Nat) (hT : T.fns "_law_numbers" = some (.pure (runP T' n' 8 sNumbers))) (ns : List Int) (hns : ns.length ≤ 63) : ∃ ms : List Int, runP T n 1 sPool [flI ns] = some (.ok (poolC ms 0)) ∧ Pool ms := by
  obtain ⟨ms, h1, h2⟩ := numbers_ok T' n' ns hns
  refine ⟨ms ++ [5], ?_, by simp, by simp; exact h2.1, fun m hm => ?_⟩
  · have b1 : ms.length + 1 ≤ 16777216 := by have := h2.1; omega
    simp [flI] at h1
    unfold runP sPool
    simp [Fin.initE, Fin.ex, Fin.ev, Fin.evt, Fin.evs, Fin.evx, Fin.evi, Fin.Res.o, Fin.bndR, Fin.ofO, Fin.res, Fin.resL, Fin.frzS, Fin.bindL, Fin.bindT, Fin.okS, Fin.scalD, Fin.cmpD, Fin.biD, Fin.biLen, Fin.biInt, Fin.biAbs, Fin.dVal, Fin.RsT.of, Fin.truD, Fin.binD, Fin.binI, Fin.unD, Fin.mmD, Fin.mmAppend, Fin.isLst, Fin.isOwn, Fin.flI, Fin.flOf, Fin.ixD, Fin.callF, Fin.asVal, Fin.scalC, Fin.isVal, Fin.hasSl, Fin.setC, Fin.mulOk, Fin.Cell.frz, Fin.isiD, Fin.shp_int, Fin.shp_bool, Fin.shp_none, Fin.eqv_int, Fin.eqv_bool, Fin.eqv_bi, Fin.eqv_ib, Fin.atI_0, Fin.atI_1, Fin.atI_2, Fin.atI_3, Fin.isND, hT, h1, poolC, line_v, b1]
  · rcases List.mem_append.mp hm with h3 | h3
    · exact h2.2 m h3
    · simp at h3; subst h3; omega
theorem pick_ok (T : Fx) (n : Nat) (ms : List Int) (at_ many : Int) (hp : Pool ms) (h0 : 0 ≤ at_) (h1 : at_ < 1000000000) (hm : 0 < many) : ∃ r : Int, runM T n 4 sPick (poolC ms at_) [.int many] = some (.ok (.val (.int r)) (poolC ms (at_ + 1))) ∧ 0 ≤ r ∧ r < many := by
  obtain ⟨hp1, hp2, hp3⟩ := hp
  have hl : (0 : Int) < ms.length := by omega
  obtain ⟨i, e1⟩ : ∃ m, at_.fmod ms.length = m := ⟨_, rfl⟩
  have e2 : 0 ≤ i ∧ i < ms.length := by rw [← e1]; exact fmod_pos hl
  obtain ⟨q, e3⟩ : ∃ m, at_.fdiv ms.length = m := ⟨_, rfl⟩
  obtain ⟨k, rfl⟩ : ∃ k : Nat, i = k := ⟨i.toNat, by omega⟩
  have hk : k < ms.length := by omega
  have ga : L2.atI (ms.map PyData.int) (k : Int) = some (.int ms[k]) := L2.atI_nat (j := k) (by rw [List.getElem?_map, List.getElem?_eq_getElem hk]; rfl)
  generalize ms[k] = x at ga
  have q0 : 0 ≤ q ∧ q ≤ at_ := by
    rw [← e3, Int.fdiv_eq_ediv_of_nonneg _ (by omega)]
    exact ⟨Int.ediv_nonneg h0 (by omega), Int.ediv_le_self _ h0⟩
  have x1 : L2.ixN 2 1 = some 1 := rfl
  have b1 : ¬ (ms.length : Int) = 0 := by omega
  have hne : ms ≠ [] := fun z => by subst z; simp at hp1
  have b2 : ms.length < 1073741824 := by omega
  have b3 : ¬ many = 0 := by omega
  have b4 : (-18446744073709551616 < q ∧ q < 18446744073709551616) := by omega
  refine ⟨(x + q * 1009 + q * at_).fmod many, ?_, (fmod_pos hm).1, (fmod_pos hm).2⟩
  unfold runM sPick poolC
  simp [Fin.initE, Fin.ex, Fin.ev, Fin.evt, Fin.evs, Fin.evx, Fin.evi, Fin.Res.o, Fin.bndR, Fin.ofO, Fin.res, Fin.resL, Fin.frzS, Fin.bindL, Fin.bindT, Fin.okS, Fin.scalD, Fin.cmpD, Fin.biD, Fin.biLen, Fin.biInt, Fin.biAbs, Fin.dVal, Fin.RsT.of, Fin.truD, Fin.binD, Fin.binI, Fin.unD, Fin.mmD, Fin.mmAppend, Fin.isLst, Fin.isOwn, Fin.flI, Fin.flOf, Fin.ixD, Fin.callF, Fin.asVal, Fin.scalC, Fin.isVal, Fin.hasSl, Fin.setC, Fin.mulOk, Fin.Cell.frz, Fin.isiD, Fin.shp_int, Fin.shp_bool, Fin.shp_none, Fin.eqv_int, Fin.eqv_bool, Fin.eqv_bi, Fin.eqv_ib, Fin.atI_0, Fin.atI_1, Fin.atI_2, Fin.atI_3, Fin.isND, x1, ga, e1, e3, b1, b2, b3, b4, hne]
end Fin
/-! Fin 20: bits of numbers. -/
namespace Fin
open PySem PySem.Spec PyProof.Rows L2
theorem and_pred_odd (j : Nat) : (2 * j + 1) &&& (2 * j) = 2 * j := by
  apply Nat.eq_of_testBit_eq
  intro i
  rw [Nat.testBit_and]
  cases i with
  | zero => simp [Nat.testBit_zero]
  | succ i =>
    rw [Nat.testBit_succ, Nat.testBit_succ]
    have e1 : (2 * j + 1) / 2 = j := by omega
    have e2 : 2 * j / 2 = j := by omega
    rw [e1, e2, Bool.and_self]
theorem and_pred_even (n : Nat) (h : 0 < n) : (2 * n) &&& (2 * n - 1) = 2 * (n &&& (n - 1)) := by
  apply Nat.eq_of_testBit_eq
  intro i
  rw [Nat.testBit_and]
  cases i with
  | zero => simp [Nat.testBit_zero]
  | succ i =>
    rw [Nat.testBit_succ, Nat.testBit_succ, Nat.testBit_succ]
    have e1 : 2 * n / 2 = n := by omega
    have e2 : (2 * n - 1) / 2 = n - 1 := by omega
    have e3 : 2 * (n &&& (n - 1)) / 2 = n &&& (n - 1) := by omega
    rw [e1, e2, e3, Nat.testBit_and]
/-- the lowest bit -/
theorem low : ∀ m : Nat, 0 < m → ∃ k j, m = 2 ^ k * (2 * j + 1) ∧ m &&& (m - 1) = 2 ^ k * (2 * j) := by
  intro m
  induction m using Nat.strongRecOn with
  | _ m ih =>
    intro h
    by_cases e : m % 2 = 1
    · refine ⟨0, m / 2, by omega, ?_⟩
      have e1 : m = 2 * (m / 2) + 1 := by omega
      have := and_pred_odd (m / 2)
      rw [← e1] at this
      have e2 : m - 1 = 2 * (m / 2) := by omega
      rw [e2, this]
      simp
    · obtain ⟨n, rfl⟩ : ∃ n, m = 2 * n := ⟨m / 2, by omega⟩
      have hn : 0 < n := by omega
      obtain ⟨k, j, h1, h2⟩ := ih n (by omega) hn
      refine ⟨k + 1, j, ?_, ?_⟩
      · rw [Nat.pow_succ, Nat.mul_comm (2 ^ k) 2, Nat.mul_assoc, ← h1]
      · rw [and_pred_even n hn, h2, Nat.pow_succ, Nat.mul_comm (2 ^ k) 2, Nat.mul_assoc]
/-- what m & -m and m ^ (1 << k) are -/
theorem low_and {m k j : Nat} (h1 : m = 2 ^ k * (2 * j + 1)) (h2 : m &&& (m - 1) = 2 ^ k * (2 * j)) : Builtin.bitAnd (m : Int) (-(m : Int)) = ((2 ^ k : Nat) : Int) := by
  have hp : 0 < 2 ^ k := Nat.two_pow_pos k
  have hm : 0 < m := by rw [h1]; exact Nat.mul_pos hp (by omega)
  rw [bitAnd_pn (by omega) (by omega)]
  have e : (Builtin.bitNot (-(m : Int))).toNat = m - 1 := by unfold Builtin.bitNot; omega
  rw [e, Int.toNat_natCast, h2]
  have e2 : m = 2 ^ k * (2 * j) + 2 ^ k := by rw [h1, Nat.mul_add, Nat.mul_one]
  generalize 2 ^ k * (2 * j) = q at *
  generalize 2 ^ k = p at *
  omega
theorem low_bits (k : Nat) : Builtin.Int.intBits ((2 ^ k : Nat) : Int) = k + 1 := by
  have hp : 0 < 2 ^ k := Nat.two_pow_pos k
  unfold Builtin.Int.intBits
  have e : (((2 ^ k : Nat) : Int) == 0) = false := by
    rw [beq_eq_false_iff_ne]
    omega
  rw [e, Int.natAbs_natCast, Nat.log2_two_pow]
  rfl
theorem testBit_low {m k j : Nat} (h1 : m = 2 ^ k * (2 * j + 1)) : m.testBit k = true ∧ ∀ i, i < k → m.testBit i = false := by
  subst h1
  refine ⟨?_, fun i hi => ?_⟩
  · rw [Nat.testBit_two_pow_mul]
    simp
  · rw [Nat.testBit_two_pow_mul]
    simp
    omega
theorem low_split {m k j : Nat} (h1 : m = 2 ^ k * (2 * j + 1)) : m = 2 ^ k * (2 * j) + 2 ^ k := by rw [h1, Nat.mul_add, Nat.mul_one]
theorem low_xor {m k j : Nat} (h1 : m = 2 ^ k * (2 * j + 1)) : Builtin.bitXor (m : Int) ((2 ^ k : Nat) : Int) = ((2 ^ k * (2 * j) : Nat) : Int) := by
  have e : m &&& 2 ^ k = 2 ^ k := by
    apply Nat.eq_of_testBit_eq
    intro i
    rw [Nat.testBit_and, Nat.testBit_two_pow]
    by_cases z : k = i
    · subst z; simp [(testBit_low h1).1]
    · simp [z]
  rw [bitXor_and, bitAnd_pp (by omega) (by omega), Int.toNat_natCast, Int.toNat_natCast, e]
  have e2 := low_split h1
  generalize 2 ^ k * (2 * j) = q at *
  generalize 2 ^ k = p at *
  omega
theorem testBit_rest {m k j : Nat} (h1 : m = 2 ^ k * (2 * j + 1)) (i : Nat) : (2 ^ k * (2 * j)).testBit i = (m.testBit i && decide (i ≠ k)) := by
  subst h1
  rw [Nat.testBit_two_pow_mul, Nat.testBit_two_pow_mul]
  by_cases h : k ≤ i
  · obtain ⟨d, rfl⟩ := Nat.exists_eq_add_of_le h
    cases d with
    | zero => simp
    | succ d =>
      have e1 : k + (d + 1) - k = d + 1 := by omega
      rw [e1, Nat.testBit_succ, Nat.testBit_succ]
      have e2 : 2 * j / 2 = j := by omega
      have e3 : (2 * j + 1) / 2 = j := by omega
      rw [e2, e3]
      simp
  · simp [h]
/-- the places of the bits of m, of N places -/
def bl (N m : Nat) : List Nat := (List.range N).filter fun i => m.testBit i
theorem filter_first {p q : Nat → Bool} {k : Nat} (hk : p k = true) (lo : ∀ i, i < k → p i = false) (hq : ∀ i, q i = (p i && decide (i ≠ k))) : ∀ N, k < N → (List.range N).filter p = k :: (List.range N).filter q
  | 0, h => absurd h (by omega)
  | N + 1, h => by
    rw [List.range_succ, List.filter_append, List.filter_append]
    by_cases e : k = N
    · subst e
      have z1 : (List.range k).filter p = [] := List.filter_eq_nil_iff.mpr fun i hi => by simp [lo i (by simpa using hi)]
      have z2 : (List.range k).filter q = [] := List.filter_eq_nil_iff.mpr fun i hi => by rw [hq]; simp [lo i (by simpa using hi)]
      have z3 : q k = false := by rw [hq]; simp
      rw [z1, z2]
      simp [hk, z3]
    · rw [filter_first hk lo hq N (by omega)]
      have z : q N = p N := by rw [hq]; simp [Ne.symm e]
      simp [List.filter, z]
theorem bl_low {N m k j : Nat} (h1 : m = 2 ^ k * (2 * j + 1)) (hN : m < 2 ^ N) : bl N m = k :: bl N (2 ^ k * (2 * j)) ∧ k < N ∧ 2 ^ k * (2 * j) < m := by
  have hp : 0 < 2 ^ k := Nat.two_pow_pos k
  have hlt : 2 ^ k * (2 * j) < m := by have := low_split h1; omega
  have hk : k < N := by
    refine (Nat.pow_lt_pow_iff_right (by decide : 1 < 2)).mp (Nat.lt_of_le_of_lt ?_ hN)
    have := low_split h1
    omega
  exact ⟨filter_first (testBit_low h1).1 (testBit_low h1).2 (fun i => testBit_rest h1 i) N hk, hk, hlt⟩
theorem bl_zero (N : Nat) : bl N 0 = [] := by simp [bl]

/-- cards_of -/
def bCardsOf : S := (.seq (.set 2 (.bin .Sub (.bm .bits (.bin .BitAnd (.var 0) (.un .USub (.var 0))) .nil) (.c (.int 1)))) (.seq (.expr (.mm .append 1 (.cons (.var 2) .nil))) (.aug 0 .BitXor (.bin .LShift (.c (.int 1)) (.var 2)))))
def tCardsOf : Te := .val (.var 0)
def sCardsOf : S := (.seq (.set 1 (.lst .nil)) (.seq (.whl tCardsOf bCardsOf) (.ret (.var 1))))
theorem cards_turn (T : Fx) (n m k j : Nat) (acc : List Nat) (c2 : Option Cell) (h1 : m = 2 ^ k * (2 * j + 1)) (h2 : m &&& (m - 1) = 2 ^ k * (2 * j)) (hk : k ≤ 1000000) (hl : acc.length < 16777216) (h0 : T.lock0 = false) :
    ex T n bCardsOf [some (.val (.int m)), some (.lst (acc.map fun (i : Nat) => PyData.int i)), c2] = some (.nx [some (.val (.int ((2 ^ k * (2 * j) : Nat) : Int))), some (.lst ((acc ++ [k]).map fun (i : Nat) => PyData.int i)), some (.val (.int k))]) := by
  have e1 := low_and h1 h2
  have e2 := low_bits k
  have e3 := low_xor h1
  have e4 : powOk 1 k = true := by
    unfold powOk
    exact decide_eq_true ⟨by omega, by omega, by decide⟩
  have e5 : (1 : Int) * 2 ^ (k : Int).toNat = ((2 ^ k : Nat) : Int) := by
    rw [Int.toNat_natCast, Int.one_mul, Int.natCast_pow]
    rfl
  have e6 : (2 : Int) ^ k = ((2 ^ k : Nat) : Int) := by rw [Int.natCast_pow]; rfl
  generalize 2 ^ k * (2 * j) = q at *
  generalize hp : ((2 ^ k : Nat) : Int) = p at *
  simp [Fin.initE, Fin.ex, Fin.ev, Fin.evt, Fin.evs, Fin.evx, Fin.evi, Fin.Res.o, Fin.bndR, Fin.ofO, Fin.res, Fin.resL, Fin.frzS, Fin.bindL, Fin.bindT, Fin.okS, Fin.scalD, Fin.cmpD, Fin.biD, Fin.biLen, Fin.biInt, Fin.biAbs, Fin.dVal, Fin.RsT.of, Fin.truD, Fin.binD, Fin.binI, Fin.unD, Fin.mmD, Fin.mmAppend, Fin.isLst, Fin.isOwn, Fin.flI, Fin.flOf, Fin.ixD, Fin.callF, Fin.asVal, Fin.scalC, Fin.isVal, Fin.hasSl, Fin.setC, Fin.mulOk, Fin.Cell.frz, Fin.isiD, Fin.shp_int, Fin.shp_bool, Fin.shp_none, Fin.eqv_int, Fin.eqv_bool, Fin.eqv_bi, Fin.eqv_ib, Fin.atI_0, Fin.atI_1, Fin.atI_2, Fin.atI_3, Fin.isND, bCardsOf, e6, bmT, bmD, line_v, hl, h0, e1, e2, e3, e4, e5]
theorem bl_len (N m : Nat) : (bl N m).length ≤ N := by
  unfold bl
  have := List.length_filter_le (fun i => m.testBit i) (List.range N)
  simpa using this
theorem cards_whl (T : Fx) (n N : Nat) (h0 : T.lock0 = false) (hN : N ≤ 1000000) : ∀ (t m : Nat) (acc : List Nat) (c2 : Option Cell), m < 2 ^ N → (bl N m).length < t → acc.length + (bl N m).length ≤ N → ∃ c2',
    whlL (evt T tCardsOf) (ex T n bCardsOf) t [some (.val (.int m)), some (.lst (acc.map fun (i : Nat) => PyData.int i)), c2] = some (.nx [some (.val (.int 0)), some (.lst ((acc ++ bl N m).map fun (i : Nat) => PyData.int i)), c2'])
  | 0, m, acc, c2, _, h, _ => absurd h (by omega)
  | t + 1, m, acc, c2, hm, h, ha => by
    by_cases z : m = 0
    · subst z
      refine ⟨c2, ?_⟩
      rw [bl_zero, List.append_nil]
      simp only [whlL, tCardsOf]
      simp [Fin.initE, Fin.ex, Fin.ev, Fin.evt, Fin.evs, Fin.evx, Fin.evi, Fin.Res.o, Fin.bndR, Fin.ofO, Fin.res, Fin.resL, Fin.frzS, Fin.bindL, Fin.bindT, Fin.okS, Fin.scalD, Fin.cmpD, Fin.biD, Fin.biLen, Fin.biInt, Fin.biAbs, Fin.dVal, Fin.RsT.of, Fin.truD, Fin.binD, Fin.binI, Fin.unD, Fin.mmD, Fin.mmAppend, Fin.isLst, Fin.isOwn, Fin.flI, Fin.flOf, Fin.ixD, Fin.callF, Fin.asVal, Fin.scalC, Fin.isVal, Fin.hasSl, Fin.setC, Fin.mulOk, Fin.Cell.frz, Fin.isiD, Fin.shp_int, Fin.shp_bool, Fin.shp_none, Fin.eqv_int, Fin.eqv_bool, Fin.eqv_bi, Fin.eqv_ib, Fin.atI_0, Fin.atI_1, Fin.atI_2, Fin.atI_3, Fin.isND]
    · obtain ⟨k, j, h1, h2⟩ := low m (by omega)
      obtain ⟨g1, g2, g3⟩ := bl_low h1 hm
      rw [g1] at h ha
      simp only [List.length_cons] at h ha
      have hs := cards_turn T n m k j acc c2 h1 h2 (by omega) (by omega) h0
      obtain ⟨c2', hr⟩ := cards_whl T n N h0 hN t (2 ^ k * (2 * j)) (acc ++ [k]) (some (.val (.int k))) (by omega) (by omega) (by simp; omega)
      refine ⟨c2', ?_⟩
      rw [g1]
      have ht : evt T tCardsOf [some (.val (.int m)), some (.lst (acc.map fun (i : Nat) => PyData.int i)), c2] = some (.ok true [some (.val (.int m)), some (.lst (acc.map fun (i : Nat) => PyData.int i)), c2]) := by
        have z2 : ¬ (m : Int) = 0 := by omega
        unfold tCardsOf
        simp [Fin.initE, Fin.ex, Fin.ev, Fin.evt, Fin.evs, Fin.evx, Fin.evi, Fin.Res.o, Fin.bndR, Fin.ofO, Fin.res, Fin.resL, Fin.frzS, Fin.bindL, Fin.bindT, Fin.okS, Fin.scalD, Fin.cmpD, Fin.biD, Fin.biLen, Fin.biInt, Fin.biAbs, Fin.dVal, Fin.RsT.of, Fin.truD, Fin.binD, Fin.binI, Fin.unD, Fin.mmD, Fin.mmAppend, Fin.isLst, Fin.isOwn, Fin.flI, Fin.flOf, Fin.ixD, Fin.callF, Fin.asVal, Fin.scalC, Fin.isVal, Fin.hasSl, Fin.setC, Fin.mulOk, Fin.Cell.frz, Fin.isiD, Fin.shp_int, Fin.shp_bool, Fin.shp_none, Fin.eqv_int, Fin.eqv_bool, Fin.eqv_bi, Fin.eqv_ib, Fin.atI_0, Fin.atI_1, Fin.atI_2, Fin.atI_3, Fin.isND, z, z2]
      rw [whlL, ht]
      simp only [hs, hr, List.append_assoc, List.singleton_append]
theorem cards_of_ok (T : Fx) (n N m : Nat) (h0 : T.lock0 = false) (hN : N ≤ 1000000) (hn : N < n) (hm : m < 2 ^ N) : runP T n 3 sCardsOf [.int m] = some (.ok (.lst ((bl N m).map fun (i : Nat) => PyData.int i))) := by
  obtain ⟨c2', h⟩ := cards_whl T n N h0 hN n m [] none hm (by have := bl_len N m; omega) (by have := bl_len N m; simpa using this)
  simp only [List.map_nil, List.nil_append] at h
  unfold runP sCardsOf
  simp [initE, ex, ev, evs, resL, frzS, okS, h]
end Fin
/-! Fin 21: how many bits. -/
namespace Fin
open PySem PySem.Spec PyProof.Rows L2
theorem occ_size (x : Str) (c : Nat) : ∀ (n i : Nat) (st : Array Nat × Nat), st.1.size ≤ i → st.2 ≤ i → i + n ≤ x.length + 1 →
    (forIn (List.range' i n) st (StrLaws.occBody x ⟨#[c]⟩ x.length (x.length + 1))).run.fst.size = st.1.size + ((List.range' i n).filter fun i => decide (x.cps.toList[i]? = some c)).length
  | 0, i, st, _, _, _ => rfl
  | n + 1, i, st, h1, h2, h3 => by
    rw [List.range'_succ, List.forIn_cons]
    unfold StrLaws.occBody
    by_cases hc : x.cps.toList[i]? = some c
    · obtain ⟨g1, g2⟩ := (StrLaws.subAt_one x c i).mpr hc
      rw [if_pos ⟨⟨⟨by omega, h2⟩, g1⟩, g2⟩]
      have ih := occ_size x c n (i + 1) (st.1.push i, i + (⟨#[c]⟩ : Str).length) (by simp; omega) (by show i + 1 ≤ i + 1; omega) (by omega)
      rw [List.filter_cons_of_pos (by simpa using hc), List.length_cons]
      refine Eq.trans ih ?_
      simp
      omega
    · rw [if_neg (fun z => hc ((StrLaws.subAt_one x c i).mp ⟨z.1.2, z.2⟩)), List.filter_cons_of_neg (by simpa using hc)]
      exact occ_size x c n (i + 1) (st.1, st.2) (by show st.1.size ≤ i + 1; omega) (by show st.2 ≤ i + 1; omega) (by omega)
theorem count_range (c : Nat) : ∀ l : List Nat, ((List.range (l.length + 1)).filter fun i => decide (l[i]? = some c)).length = l.count c
  | [] => by simp
  | a :: l => by
    rw [List.length_cons, List.range_succ_eq_map, List.filter_cons, List.filter_map, List.count_cons]
    have e : ((fun i => decide ((a :: l)[i]? = some c)) ∘ Nat.succ) = fun i => decide (l[i]? = some c) := by
      funext i
      simp
    rw [e]
    have ih := count_range c l
    by_cases h : a = c
    · subst h
      simp [ih]
    · simp [h, ih]
theorem count_ok (x : Str) (c : Nat) : Txt.count x ⟨#[c]⟩ = (x.cps.toList.count c : Nat) := by
  unfold Txt.count
  rw [StrLaws.occ_eq, Array.length_toList, occ_size x c (x.length + 1 - 0) 0 (#[], 0) (by simp) (by simp) (by omega)]
  have e : x.length + 1 - 0 = x.cps.toList.length + 1 := by simp [Str.length]
  rw [e, ← List.range_eq_range', count_range]
  simp
theorem bl_half (N m : Nat) : (bl (N + 1) m).length = m % 2 + (bl N (m / 2)).length := by
  unfold bl
  rw [List.range_succ_eq_map, List.filter_cons, List.filter_map]
  have e : ((fun i => m.testBit i) ∘ Nat.succ) = fun i => (m / 2).testBit i := by
    funext i
    exact Nat.testBit_succ m i
  rw [e, Nat.testBit_zero]
  by_cases h : m % 2 = 1
  · simp [h]
    omega
  · have h0 : m % 2 = 0 := by omega
    simp [h0]
theorem dig_count : ∀ (N m : Nat), m < 2 ^ N → ((Nat.toDigits 2 m).map Char.toNat).count 49 = (bl N m).length
  | 0, m, h => by
    have : m = 0 := by simpa using h
    subst this
    decide
  | N + 1, m, h => by
    rw [bl_half, Nat.toDigits_eq_if (by decide)]
    by_cases h2 : m < 2
    · rw [if_pos h2]
      have hm : m = 0 ∨ m = 1 := by omega
      rcases hm with e | e <;> subst e
      · rw [show (0 : Nat) / 2 = 0 from rfl, bl_zero]; decide
      · rw [show (1 : Nat) / 2 = 0 from rfl, bl_zero]; decide
    · rw [if_neg h2, List.map_append, List.count_append, dig_count N (m / 2) (by rw [Nat.pow_succ] at h; omega)]
      have hm : m % 2 = 0 ∨ m % 2 = 1 := by omega
      rcases hm with e | e <;> rw [e]
      · rw [show (([Nat.digitChar 0].map Char.toNat).count 49) = 0 by decide]; omega
      · rw [show (([Nat.digitChar 1].map Char.toNat).count 49) = 1 by decide]; omega
theorem binText_nat (m : Nat) : (binText (m : Int)).cps.toList = (Nat.toDigits 2 m).map Char.toNat := by
  have hd : ((Nat.toDigits 2 m).map fun c => (if (98 : Nat) == 88 then c.toUpper else c).toNat) = (Nat.toDigits 2 m).map Char.toNat := by
    apply List.map_congr_left
    intro c _
    rfl
  have hne : ((Nat.toDigits 2 m).map Char.toNat).isEmpty = false := by
    have := toDigits_len_ge 2 m
    cases h : Nat.toDigits 2 m with
    | nil => rw [h] at this; simp at this
    | cons _ _ => rfl
  have hneg : decide ((m : Int) < 0) = false := decide_eq_false (by omega)
  unfold binText
  rw [Int.natAbs_natCast, hd, hneg]
  generalize (Nat.toDigits 2 m).map Char.toNat = ds at *
  unfold intField'
  simp [hne]
theorem binText_len (m N : Nat) (hN : 1 ≤ N) (hm : m < 2 ^ N) : (binText (m : Int)).length ≤ N := by
  have h : (binText (m : Int)).length = (binText (m : Int)).cps.toList.length := by simp [Str.length]
  rw [h, binText_nat, List.length_map]
  exact toDigits_len_pow (by decide) hN hm
/-- count_cards -/
def sCountCards : S := (.ret (.bm .count (.fb (.var 0)) (.cons (.c (.str "1")) .nil)))
theorem count_cards_ok (T : Fx) (n N m : Nat) (hN : 1 ≤ N) (hN2 : N ≤ 16777216) (hm : m < 2 ^ N) : runP T n 1 sCountCards [.int m] = some (.ok (.val (.int ((bl N m).length : Nat)))) := by
  have h1 := binText_len m N hN hm
  have h2 : Txt.count (binText (m : Int)) "1" = ((bl N m).length : Nat) := by
    have e : ("1" : Str) = ⟨#[49]⟩ := by decide +kernel
    rw [e, count_ok, binText_nat, dig_count N m hm]
  have h3 : (binText (m : Int)).length ≤ 16777216 := by omega
  unfold runP sCountCards
  simp [Fin.initE, Fin.ex, Fin.ev, Fin.evt, Fin.evs, Fin.evx, Fin.evi, Fin.Res.o, Fin.bndR, Fin.ofO, Fin.res, Fin.resL, Fin.frzS, Fin.bindL, Fin.bindT, Fin.okS, Fin.scalD, Fin.cmpD, Fin.biD, Fin.biLen, Fin.biInt, Fin.biAbs, Fin.dVal, Fin.RsT.of, Fin.truD, Fin.binD, Fin.binI, Fin.unD, Fin.mmD, Fin.mmAppend, Fin.isLst, Fin.isOwn, Fin.flI, Fin.flOf, Fin.ixD, Fin.callF, Fin.asVal, Fin.scalC, Fin.isVal, Fin.hasSl, Fin.setC, Fin.mulOk, Fin.Cell.frz, Fin.isiD, Fin.shp_int, Fin.shp_bool, Fin.shp_none, Fin.eqv_int, Fin.eqv_bool, Fin.eqv_bi, Fin.eqv_ib, Fin.atI_0, Fin.atI_1, Fin.atI_2, Fin.atI_3, Fin.isND, fbD, bmT, bmD, line_v, h2, h3]
end Fin
/-! Fin 22: the laws' own helpers: masks, their cards, lists of ints. -/
namespace Fin
open PySem PySem.Spec PyProof.Rows L2
theorem range_at' {n j : Nat} {d : D} (hd : ((List.range n).map fun (k : Nat) => PyData.int (0 + (k : Int)))[j]? = some d) : j < n ∧ d = .int j := by
  have hj : j < n := by
    have := (List.getElem?_eq_some_iff.mp hd).1
    simpa using this
  rw [List.getElem?_map, List.getElem?_range hj] at hd
  cases hd
  exact ⟨hj, by simp⟩
theorem or_high {m j : Nat} (h : m < 2 ^ j) : Builtin.bitOr (m : Int) ((2 ^ j : Nat) : Int) = ((m + 2 ^ j : Nat) : Int) := by
  have e : m &&& 2 ^ j = 0 := by
    apply Nat.eq_of_testBit_eq
    intro i
    rw [Nat.testBit_and, Nat.testBit_two_pow, Nat.zero_testBit]
    by_cases z : j = i
    · subst z; rw [Nat.testBit_lt_two_pow h]; rfl
    · simp [z]
  rw [bitOr_and, bitAnd_pp (by omega) (by omega), Int.toNat_natCast, Int.toNat_natCast, e]
  omega
def sAnyDeck : S := (.ret (.tup (.cons (.bin .Add (.c (.int 1)) (.call "_law_pick" (.cons (.var 0) (.cons (.c (.int 4)) .nil)))) (.cons (.bin .Add (.c (.int 1)) (.call "_law_pick" (.cons (.var 0) (.cons (.c (.int 13)) .nil)))) .nil))))
theorem any_deck_ok (T T' : Fx) (n n' : Nat) (hT : T.fns "_law_pick" = some (.mt (runM T' n' 4 sPick))) (ms : List Int) (at_ : Int) (hp : Pool ms) (h0 : 0 ≤ at_) (h1 : at_ < 10000000) : ∃ a b : Nat, 1 ≤ a ∧ a ≤ 4 ∧ 1 ≤ b ∧ b ≤ 13 ∧ runM T n 1 sAnyDeck (poolC ms at_) [] = some (.ok (.val (.tuple [.int a, .int b])) (poolC ms (at_ + 1 + 1))) := by
  obtain ⟨r1, p1, p2, p3⟩ := pick_ok T' n' ms at_ 4 hp h0 (by omega) (by omega)
  obtain ⟨r2, q1, q2, q3⟩ := pick_ok T' n' ms (at_ + 1) 13 hp (by omega) (by omega) (by omega)
  obtain ⟨a, ea⟩ : ∃ a : Nat, 1 + r1 = a := ⟨(1 + r1).toNat, by omega⟩
  obtain ⟨b, eb⟩ : ∃ b : Nat, 1 + r2 = b := ⟨(1 + r2).toNat, by omega⟩
  refine ⟨a, b, by omega, by omega, by omega, by omega, ?_⟩
  simp only [poolC] at p1 q1
  unfold runM sAnyDeck
  simp [Fin.initE, Fin.ex, Fin.ev, Fin.evt, Fin.evs, Fin.evx, Fin.evi, Fin.Res.o, Fin.bndR, Fin.ofO, Fin.res, Fin.resL, Fin.frzS, Fin.bindL, Fin.bindT, Fin.okS, Fin.scalD, Fin.cmpD, Fin.biD, Fin.biLen, Fin.biInt, Fin.biAbs, Fin.dVal, Fin.RsT.of, Fin.truD, Fin.binD, Fin.binI, Fin.unD, Fin.mmD, Fin.mmAppend, Fin.isLst, Fin.isOwn, Fin.flI, Fin.flOf, Fin.ixD, Fin.callF, Fin.asVal, Fin.scalC, Fin.isVal, Fin.hasSl, Fin.setC, Fin.mulOk, Fin.Cell.frz, Fin.isiD, Fin.shp_int, Fin.shp_bool, Fin.shp_none, Fin.eqv_int, Fin.eqv_bool, Fin.eqv_bi, Fin.eqv_ib, Fin.atI_0, Fin.atI_1, Fin.atI_2, Fin.atI_3, Fin.isND, poolC, hT, p1, q1, ea, eb]
def bMask : S := (.ite (.val (.cmp .Eq (.call "_law_pick" (.cons (.var 0) (.cons (.var 2) .nil))) (.c (.int 0)))) (.set 3 (.bin .BitOr (.var 3) (.bin .LShift (.c (.int 1)) (.var 4)))) .pass)
def sMask : S := (.seq (.set 3 (.c (.int 0))) (.seq (.for_ (.one 4) (.rng (.cons (.bin .Mult (.ix (.var 1) (.c (.int 0))) (.ix (.var 1) (.c (.int 1)))) .nil)) bMask) (.ret (.var 3))))
def eM (ms : List Int) (at_ : Int) (dk : D) (share : Int) (m : Nat) (c4 : Option Cell) : Fin.Env := [some (poolC ms at_), some (.val dk), some (.val (.int share)), some (.val (.int m)), c4]
theorem mask_loop (T T' : Fx) (n n' : Nat) (hT : T.fns "_law_pick" = some (.mt (runM T' n' 4 sPick))) (ms : List Int) (at_ : Int) (dk : D) (share : Int) (N : Nat) (hN : N ≤ 1000) (hp : Pool ms) (h0 : 0 ≤ at_) (h1 : at_ < 10000000) (hs : 0 < share) :
    ∃ env', forL T (.one 4) (ex T n bMask) ((List.range N).map fun (k : Nat) => PyData.int (0 + (k : Int))) (eM ms at_ dk share 0 none) = some (.nx env') ∧ ∃ m c4, m < 2 ^ N ∧ env' = eM ms (at_ + N) dk share m c4 := by
  obtain ⟨env', g1, m, c4, g2, g3⟩ := forL_at (T := T) (t := .one 4) (f := ex T n bMask) ((List.range N).map fun (k : Nat) => PyData.int (0 + (k : Int))) (fun j e => ∃ m c4, m < 2 ^ j ∧ e = eM ms (at_ + j) dk share m c4) (env := eM ms at_ dk share 0 none) ⟨0, none, by simp, by simp⟩ fun j d e hd ⟨m, c4, g1, he⟩ => by
    subst he
    obtain ⟨hj, rfl⟩ := range_at' hd
    obtain ⟨r, p1, p2, p3⟩ := pick_ok T' n' ms (at_ + j) share hp (by omega) (by omega) hs
    simp only [poolC] at p1
    have e4 : powOk 1 j = true := by
      unfold powOk
      exact decide_eq_true ⟨by omega, by omega, by decide⟩
    have e6 : (2 : Int) ^ j = ((2 ^ j : Nat) : Int) := by rw [Int.natCast_pow]; rfl
    have e7 := or_high g1
    have e8 : 2 ^ (j + 1) = 2 ^ j + 2 ^ j := by rw [Nat.pow_succ]; omega
    have e9 : at_ + ((j + 1 : Nat) : Int) = at_ + j + 1 := by omega
    by_cases hr : r = 0
    · refine ⟨eM ms (at_ + j) dk share m (some (.val (.int (j : Int)))), eM ms (at_ + ((j + 1 : Nat) : Int)) dk share (m + 2 ^ j) (some (.val (.int (j : Int)))), by simp [bindT, okS, eM], .inl ?_, _, _, by omega, rfl⟩
      rw [e9]
      subst hr
      generalize hq : m + 2 ^ j = q at *
      generalize hpp : ((2 ^ j : Nat) : Int) = p at *
      simp [Fin.initE, Fin.ex, Fin.ev, Fin.evt, Fin.evs, Fin.evx, Fin.evi, Fin.Res.o, Fin.bndR, Fin.ofO, Fin.res, Fin.resL, Fin.frzS, Fin.bindL, Fin.bindT, Fin.okS, Fin.scalD, Fin.cmpD, Fin.biD, Fin.biLen, Fin.biInt, Fin.biAbs, Fin.dVal, Fin.RsT.of, Fin.truD, Fin.binD, Fin.binI, Fin.unD, Fin.mmD, Fin.mmAppend, Fin.isLst, Fin.isOwn, Fin.flI, Fin.flOf, Fin.ixD, Fin.callF, Fin.asVal, Fin.scalC, Fin.isVal, Fin.hasSl, Fin.setC, Fin.mulOk, Fin.Cell.frz, Fin.isiD, Fin.shp_int, Fin.shp_bool, Fin.shp_none, Fin.eqv_int, Fin.eqv_bool, Fin.eqv_bi, Fin.eqv_ib, Fin.atI_0, Fin.atI_1, Fin.atI_2, Fin.atI_3, Fin.isND, bMask, eM, poolC, hT, p1, e4, e6, e7]
    · refine ⟨eM ms (at_ + j) dk share m (some (.val (.int (j : Int)))), eM ms (at_ + ((j + 1 : Nat) : Int)) dk share m (some (.val (.int (j : Int)))), by simp [bindT, okS, eM], .inl ?_, _, _, by omega, rfl⟩
      rw [e9]
      simp [Fin.initE, Fin.ex, Fin.ev, Fin.evt, Fin.evs, Fin.evx, Fin.evi, Fin.Res.o, Fin.bndR, Fin.ofO, Fin.res, Fin.resL, Fin.frzS, Fin.bindL, Fin.bindT, Fin.okS, Fin.scalD, Fin.cmpD, Fin.biD, Fin.biLen, Fin.biInt, Fin.biAbs, Fin.dVal, Fin.RsT.of, Fin.truD, Fin.binD, Fin.binI, Fin.unD, Fin.mmD, Fin.mmAppend, Fin.isLst, Fin.isOwn, Fin.flI, Fin.flOf, Fin.ixD, Fin.callF, Fin.asVal, Fin.scalC, Fin.isVal, Fin.hasSl, Fin.setC, Fin.mulOk, Fin.Cell.frz, Fin.isiD, Fin.shp_int, Fin.shp_bool, Fin.shp_none, Fin.eqv_int, Fin.eqv_bool, Fin.eqv_bi, Fin.eqv_ib, Fin.atI_0, Fin.atI_1, Fin.atI_2, Fin.atI_3, Fin.isND, bMask, eM, poolC, hT, p1, hr]
  exact ⟨env', g1, m, c4, by simpa using g2, by simpa using g3⟩
theorem mul_small {A B : Int} (h1 : -18446744073709551616 < A) (h2 : A < 18446744073709551616) : mulOk A B = true := by
  unfold mulOk
  exact decide_eq_true (.inl ⟨h1, h2⟩)
theorem mul_nat {a : Nat} {B : Int} (h : a ≤ 1000) : mulOk (a : Int) B = true := mul_small (by omega) (by omega)
theorem nat_small {N : Nat} (h : N ≤ 1000) : (-1000000 : Int) ≤ (N : Int) ∧ (N : Int) ≤ 1000000 := by omega
theorem runM_d {T : Fx} {n m : Nat} {s : S} {c c' : Cell} {ds : List D} {d : D} {env : Fin.Env} (h : ex { T with lock0 := true } n s (initE m (c :: ds.map .val)) = some (.rt (.d d) env)) (h0 : env[0]? = some (some c')) : runM T n m s c ds = some (.ok (.val d) c') := by
  unfold runM
  rw [h]
  simp [h0]
theorem mask_core (T : Fx) (n : Nat) (A B K share : Int) (N m : Nat) (c0 c0' : Option Cell) (c4 : Option Cell) (hm : mulOk A B = true) (hK : A * B = K) (z2 : (-1000000 : Int) ≤ K ∧ K ≤ 1000000) (z3 : K.toNat = N)
    (g1 : forL T (.one 4) (ex T n bMask) ((List.range N).map fun (k : Nat) => PyData.int (0 + (k : Int))) [c0, some (.val (.tuple [.int A, .int B])), some (.val (.int share)), some (.val (.int 0)), none] = some (.nx [c0', some (.val (.tuple [.int A, .int B])), some (.val (.int share)), some (.val (.int m)), c4])) :
    ex T n sMask [c0, some (.val (.tuple [.int A, .int B])), some (.val (.int share)), none, none] = some (.rt (.d (.int m)) [c0', some (.val (.tuple [.int A, .int B])), some (.val (.int share)), some (.val (.int m)), c4]) := by
  simp only [Int.zero_add] at g1
  unfold sMask
  simp [ex, ev, evt, evs, evi, Res.o, bndR, ofO, res, resL, frzS, okS, scalD, dVal, binD, Fin.binI, ixD, atI_0, atI_1, hm, hK, z2, z3, g1]
theorem mask_ok (T T' : Fx) (n n' : Nat) (hT : T.fns "_law_pick" = some (.mt (runM T' n' 4 sPick))) (ms : List Int) (at_ : Int) (a b : Nat) (share : Int) (ha : a ≤ 4) (hb : b ≤ 13) (hp : Pool ms) (h0 : 0 ≤ at_) (h1 : at_ < 10000000) (hs : 0 < share) :
    ∃ m : Nat, m < 2 ^ (a * b) ∧ runM T n 5 sMask (poolC ms at_) [.tuple [.int a, .int b], .int share] = some (.ok (.val (.int m)) (poolC ms (at_ + (a * b : Nat)))) := by
  have q : a * b ≤ 52 := Nat.mul_le_mul ha hb
  obtain ⟨env', g1, m, c4, g2, rfl⟩ := mask_loop { T with lock0 := true } T' n n' hT ms at_ (.tuple [.int a, .int b]) share (a * b) (by omega) hp h0 h1 hs
  refine ⟨m, g2, ?_⟩
  have q2 : (a : Int) * b = ((a * b : Nat) : Int) := (Int.natCast_mul a b).symm
  have hm : mulOk (a : Int) b = true := mul_nat (by omega)
  have g := mask_core { T with lock0 := true } n a b _ share (a * b) m (some (poolC ms at_)) (some (poolC ms (at_ + (a * b : Nat)))) c4 hm q2 (nat_small (by omega)) (Int.toNat_natCast _) g1
  exact runM_d g rfl
/-- a comprehension that keeps its names -/
theorem compL_ok {t : Fin.Env → Option RsT} {f : Fin.Env → Option Res} {i : Nat} {env : Fin.Env} (p : D → Bool) (g : D → D) (he : env.set i none = env) : ∀ (ds acc : List D), (∀ d ∈ ds, t (env.set i (some (.val d))) = some (.ok (p d) (env.set i (some (.val d))))) →
    (∀ d ∈ ds, p d = true → f (env.set i (some (.val d))) = some (.ok (.d (g d)) (env.set i (some (.val d))))) → acc.length + ds.length ≤ 1000000 → compL t f i ds env acc = some (.ok (.fr (.lst (acc ++ (ds.filter p).map g))) env)
  | [], acc, _, _, _ => by simp [compL]
  | d :: ds, acc, ht, hf, hl => by
    simp only [List.length_cons] at hl
    have back : (env.set i (some (.val d))).set i none = env := by rw [List.set_set, he]
    rw [compL, ht d List.mem_cons_self]
    cases hp : p d with
    | false =>
      simp only [back]
      rw [compL_ok p g he ds acc (fun d hd => ht d (List.mem_cons_of_mem _ hd)) (fun d hd => hf d (List.mem_cons_of_mem _ hd)) (by omega), List.filter_cons_of_neg (by simp [hp])]
    | true =>
      simp only [hf d List.mem_cons_self hp, back]
      rw [if_pos (by rw [line_v]; omega), compL_ok p g he ds (acc ++ [g d]) (fun d hd => ht d (List.mem_cons_of_mem _ hd)) (fun d hd => hf d (List.mem_cons_of_mem _ hd)) (by simp; omega), List.filter_cons_of_pos hp]
      simp
def xCards : E := (.var 1)
def tCards : Te := (.val (.cmp .Eq (.bin .BitAnd (.bin .RShift (.var 0) (.var 1)) (.c (.int 1))) (.c (.int 1))))
def sCards : S := (.ret (.comp xCards 1 (.rng (.cons (.bm .bits (.var 0) .nil) .nil)) tCards))
theorem shr_bit (m k : Nat) : decide (Builtin.bitAnd ((m : Int) / 2 ^ k) 1 = 1) = m.testBit k := by
  have e : ((m : Int) / 2 ^ k) = ((m / 2 ^ k : Nat) : Int) := by rw [Int.natCast_ediv, Int.natCast_pow]; rfl
  rw [e, show (1 : Int) = ((1 : Nat) : Int) from rfl, bitAnd_pp (Int.natCast_nonneg _) (Int.natCast_nonneg _), Int.toNat_natCast, Int.toNat_natCast, Nat.and_one_is_mod]
  have h : m.testBit k = decide (m / 2 ^ k % 2 = 1) := by rw [Nat.testBit_eq_decide_div_mod_eq]
  rw [h]
  by_cases z : m / 2 ^ k % 2 = 1
  · simp [z]
  · have : m / 2 ^ k % 2 = 0 := by omega
    simp [this]
theorem bits_nat (m N : Nat) (h : m < 2 ^ N) : Builtin.Int.intBits (m : Int) ≤ N := by
  unfold Builtin.Int.intBits
  split
  · omega
  · rename_i z
    have z2 : m ≠ 0 := fun e => by subst e; simp at z
    have := (Nat.log2_lt z2).mpr h
    rw [Int.natAbs_natCast]
    omega
theorem bl_bits (m N : Nat) (h : m < 2 ^ N) : bl (Builtin.Int.intBits (m : Int)) m = bl N m := by
  have hb := bits_nat m N h
  have hm : m < 2 ^ Builtin.Int.intBits (m : Int) := by
    unfold Builtin.Int.intBits
    split
    · rename_i z
      have : m = 0 := by simpa using z
      subst this; decide
    · rw [Int.natAbs_natCast]
      exact Nat.lt_log2_self
  generalize Builtin.Int.intBits (m : Int) = B at *
  obtain ⟨d, rfl⟩ := Nat.exists_eq_add_of_le hb
  unfold bl
  rw [List.range_add, List.filter_append]
  have : (List.map (B + ·) (List.range d)).filter (fun i => m.testBit i) = [] := List.filter_eq_nil_iff.mpr fun i hi => by
    obtain ⟨x, _, rfl⟩ := List.mem_map.mp hi
    rw [Nat.testBit_lt_two_pow (Nat.lt_of_lt_of_le hm (Nat.pow_le_pow_right (by decide) (by omega)))]
    decide
  rw [this, List.append_nil]
end Fin
/-! Fin 23: a def's run, step by step. -/
namespace Fin
open PySem PySem.Spec PyProof.Rows L2
theorem runP_d {T : Fx} {n m : Nat} {s : S} {ds : List D} {d : D} {env : Fin.Env} (h : ex T n s (initE m (ds.map .val)) = some (.rt (.d d) env)) : runP T n m s ds = some (.ok (.val d)) := by
  unfold runP
  rw [h]
theorem runP_fr {T : Fx} {n m : Nat} {s : S} {ds : List D} {c : Cell} {env : Fin.Env} (h : ex T n s (initE m (ds.map .val)) = some (.rt (.fr c) env)) : runP T n m s ds = some (.ok c) := by
  unfold runP
  rw [h]
theorem runP_sl {T : Fx} {n m i : Nat} {s : S} {ds : List D} {c : Cell} {env : Fin.Env} (h : ex T n s (initE m (ds.map .val)) = some (.rt (.sl i) env)) (h2 : env[i]? = some (some c)) : runP T n m s ds = some (.ok c) := by
  unfold runP
  rw [h]
  simp only [h2]
theorem runP_exc {T : Fx} {n m : Nat} {s : S} {ds : List D} {c : Str} {env : Fin.Env} (h : ex T n s (initE m (ds.map .val)) = some (.exc c env)) : runP T n m s ds = some (.exc c) := by
  unfold runP
  rw [h]
theorem seq_st {T : Fx} {n : Nat} {a b : S} {env e1 : Fin.Env} {o : Option Out} (h : ex T n a env = some (.nx e1)) (h2 : ex T n b e1 = o) : ex T n (.seq a b) env = o := by rw [seq_nx h]; exact h2
theorem seq_end {T : Fx} {n : Nat} {a b : S} {env e1 : Fin.Env} {v : Val} (h : ex T n a env = some (.rt v e1)) : ex T n (.seq a b) env = some (.rt v e1) := by simp only [ex, h]
end Fin
/-! Fin 24: loops by what has been gone through; suits of masks; what the laws compare. -/
namespace Fin
open PySem PySem.Spec PyProof.Rows L2
def nd (i : Nat) : D := .int i
def NI (l : List Nat) : List D := l.map fun (i : Nat) => PyData.int (i : Int)
theorem ev_comp {T : Fx} {elt : E} {i : Nat} {it : It} {cnd : Te} {env e1 e2 : Fin.Env} {ds : List D} {v : Val} (h : evi T it env = some (.ok ds e1)) (ho : okS T i = true)
    (hc : compL (evt T cnd) (fun e => Res.o (ev T elt e)) i ds (e1.set i none) [] = some (.ok v e2)) : ev T (.comp elt i it cnd) env = some (.ok v (e2.set i (back (e1[i]?.getD none)))) := by
  simp only [ev, ho, if_true, h, hc]
theorem ex_for {T : Fx} {n : Nat} {t : Tg} {it : It} {b : S} {env e1 e2 : Fin.Env} {ds : List D} (h : evi T it env = some (.ok ds e1)) (hl : forL T t (ex T n b) ds e1 = some (.nx e2)) : ex T n (.for_ t it b) env = some (.nx e2) := by
  simp only [ex, h, hl]
theorem forL_pre {α : Type} {T : Fx} {t : Tg} {f : Fin.Env → Option Out} (g : α → D) (l : List α) (I : List α → Fin.Env → Prop) {env : Fin.Env} (h0 : I [] env)
    (k : ∀ pre x post e, l = pre ++ x :: post → I pre e → ∃ e1 e2, bindT T t (g x) e = some e1 ∧ (f e1 = some (.nx e2) ∨ f e1 = some (.ct e2)) ∧ I (pre ++ [x]) e2) : ∃ env', forL T t f (l.map g) env = some (.nx env') ∧ I l env' := by
  obtain ⟨env', h1, pre, post, h2, h3, h4⟩ := forL_inv (T := T) (t := t) (f := f) (fun ds e => ∃ pre post, l = pre ++ post ∧ ds = post.map g ∧ I pre e) (l.map g) env ⟨[], l, rfl, rfl, h0⟩ fun d ds e ⟨pre, post, h2, h3, h4⟩ => by
    cases post with
    | nil => cases h3
    | cons x post =>
      rw [List.map_cons] at h3
      obtain ⟨rfl, rfl⟩ := List.cons.inj h3
      obtain ⟨e1, e2, a, b, c⟩ := k pre x post e h2 h4
      exact ⟨e1, e2, a, b, pre ++ [x], post, by rw [h2]; simp, rfl, c⟩
  have hp : post = [] := by
    cases post with
    | nil => rfl
    | cons _ _ => cases h3
  subst hp
  rw [List.append_nil] at h2
  subst h2
  exact ⟨env', h1, h4⟩
theorem forL_rng {T : Fx} {t : Tg} {f : Fin.Env → Option Out} (a : Int) (n : Nat) (I : Nat → Fin.Env → Prop) {env : Fin.Env} (h0 : I 0 env)
    (k : ∀ j e, j < n → I j e → ∃ e1 e2, bindT T t (.int (a + j)) e = some e1 ∧ (f e1 = some (.nx e2) ∨ f e1 = some (.ct e2)) ∧ I (j + 1) e2) : ∃ env', forL T t f ((List.range n).map fun (k : Nat) => PyData.int (a + (k : Int))) env = some (.nx env') ∧ I n env' := by
  obtain ⟨env', h1, h2⟩ := forL_at (T := T) (t := t) (f := f) ((List.range n).map fun (k : Nat) => PyData.int (a + (k : Int))) I h0 fun j d e hd hI => by
    have hj : j < n := by
      have := (List.getElem?_eq_some_iff.mp hd).1
      simpa using this
    rw [List.getElem?_map, List.getElem?_range hj] at hd
    cases hd
    exact k j e hj hI
  exact ⟨env', h1, by simpa using h2⟩
theorem pow_cast (b : Nat) : (2 : Int) ^ b = ((2 ^ b : Nat) : Int) := by rw [Int.natCast_pow]; rfl
theorem powOk_nat {i : Int} {j : Nat} (h : i.natAbs < 2 ^ 64) (hj : j ≤ 1000000) : powOk i j = true := by
  unfold powOk
  exact decide_eq_true ⟨by omega, by omega, h⟩
theorem and_nat (a b : Nat) : Builtin.bitAnd (a : Int) (b : Int) = ((a &&& b : Nat) : Int) := by
  rw [bitAnd_pp (Int.natCast_nonneg _) (Int.natCast_nonneg _), Int.toNat_natCast, Int.toNat_natCast]
theorem or_nat (a b : Nat) : Builtin.bitOr (a : Int) (b : Int) = ((a ||| b : Nat) : Int) := by
  have h := Bits.bitOr_pp (x := (a:Int)) (y := (b:Int)) (by omega) (by omega)
  simpa using h
theorem mulP {i j : Int} (h : mulOk i j = true) : -18446744073709551616 < i ∧ i < 18446744073709551616 ∨ -18446744073709551616 < j ∧ j < 18446744073709551616 := by
  unfold mulOk at h
  simpa using h
/-! ### suits -/
def inS (b s i : Nat) : Bool := decide (s * b ≤ i ∧ i < s * b + b)
def suitM (b s m : Nat) : Nat := m &&& (2 ^ (s * b) * (2 ^ b - 1))
theorem suitM_bit (b s m i : Nat) : (suitM b s m).testBit i = (m.testBit i && inS b s i) := by
  unfold suitM inS
  rw [Nat.testBit_and, Nat.testBit_two_pow_mul, Nat.testBit_two_pow_sub_one]
  congr 1
  by_cases h1 : s * b ≤ i <;> by_cases h2 : i < s * b + b <;> simp [h1, h2] <;> omega
theorem bl_suit (N b s m : Nat) : bl N (suitM b s m) = (bl N m).filter (inS b s) := by
  unfold bl
  rw [List.filter_filter]
  congr 1
  funext i
  rw [suitM_bit, Bool.and_comm]
theorem suitM_lt {N b s m : Nat} (h : m < 2 ^ N) : suitM b s m < 2 ^ N := Nat.lt_of_le_of_lt Nat.and_le_left h
theorem inS_div {b s i : Nat} (hb : 0 < b) : inS b s i = decide (i / b = s) := by
  unfold inS
  congr 1
  rw [eq_iff_iff, Nat.div_eq_iff hb]
  omega
def sCardOf : S := (.ret (.bin .Add (.bin .Mult (.var 1) (.ix (.var 0) (.c (.int 1)))) (.var 2)))
theorem card_of_ok (T : Fx) (n : Nat) (a b s r K : Int) (hm : mulOk s b = true) (hk : s * b + r = K) : runP T n 3 sCardOf [.tuple [.int a, .int b], .int s, .int r] = some (.ok (.val (.int K))) := by
  have hm2 := mulP hm
  unfold runP sCardOf
  simp [Fin.initE, Fin.ex, Fin.ev, Fin.evt, Fin.evs, Fin.evx, Fin.evi, Fin.Res.o, Fin.bndR, Fin.ofO, Fin.res, Fin.resL, Fin.frzS, Fin.bindL, Fin.bindT, Fin.okS, Fin.scalD, Fin.cmpD, Fin.biD, Fin.biLen, Fin.biInt, Fin.biAbs, Fin.dVal, Fin.RsT.of, Fin.truD, Fin.binD, Fin.binI, Fin.unD, Fin.mmD, Fin.mmAppend, Fin.isLst, Fin.isOwn, Fin.flI, Fin.flOf, Fin.ixD, Fin.callF, Fin.asVal, Fin.scalC, Fin.isVal, Fin.hasSl, Fin.setC, Fin.mulOk, Fin.Cell.frz, Fin.isiD, Fin.shp_int, Fin.shp_bool, Fin.shp_none, Fin.eqv_int, Fin.eqv_bool, Fin.eqv_bi, Fin.eqv_ib, Fin.atI_0, Fin.atI_1, Fin.atI_2, Fin.atI_3, Fin.isND, hm2, hk]
def sOfSuit : S := (.seq (.set 3 (.bin .Sub (.bin .LShift (.c (.int 1)) (.ix (.var 0) (.c (.int 1)))) (.c (.int 1)))) (.ret (.bin .BitAnd (.var 1) (.bin .LShift (.var 3) (.call "card_of" (.cons (.var 0) (.cons (.var 2) (.cons (.c (.int 0)) .nil))))))))
theorem of_suit_core (T T' : Fx) (n n' : Nat) (hT : T.fns "card_of" = some (.pure (runP T' n' 3 sCardOf))) (a b m s w sb q r : Int) (h1 : powOk 1 b = true) (h2 : 2 ^ b.toNat - 1 = w) (h3 : mulOk s b = true) (h4 : s * b = sb) (h5 : powOk w sb = true) (h6 : w * 2 ^ sb.toNat = q) (h7 : Builtin.bitAnd m q = r) :
    runP T n 4 sOfSuit [.tuple [.int a, .int b], .int m, .int s] = some (.ok (.val (.int r))) := by
  have hc := card_of_ok T' n' a b s 0 sb h3 (by omega)
  unfold runP sOfSuit
  simp [Fin.initE, Fin.ex, Fin.ev, Fin.evt, Fin.evs, Fin.evx, Fin.evi, Fin.Res.o, Fin.bndR, Fin.ofO, Fin.res, Fin.resL, Fin.frzS, Fin.bindL, Fin.bindT, Fin.okS, Fin.scalD, Fin.cmpD, Fin.biD, Fin.biLen, Fin.biInt, Fin.biAbs, Fin.dVal, Fin.RsT.of, Fin.truD, Fin.binD, Fin.binI, Fin.unD, Fin.mmD, Fin.mmAppend, Fin.isLst, Fin.isOwn, Fin.flI, Fin.flOf, Fin.ixD, Fin.callF, Fin.asVal, Fin.scalC, Fin.isVal, Fin.hasSl, Fin.setC, Fin.mulOk, Fin.Cell.frz, Fin.isiD, Fin.shp_int, Fin.shp_bool, Fin.shp_none, Fin.eqv_int, Fin.eqv_bool, Fin.eqv_bi, Fin.eqv_ib, Fin.atI_0, Fin.atI_1, Fin.atI_2, Fin.atI_3, Fin.isND, hT, hc, h1, h2, h5, h6, h7]
theorem of_suit_ok (T T' : Fx) (n n' : Nat) (hT : T.fns "card_of" = some (.pure (runP T' n' 3 sCardOf))) (a : Int) (b s m : Nat) (hb : b ≤ 13) (hs : s ≤ 4) : runP T n 4 sOfSuit [.tuple [.int a, .int b], .int m, .int s] = some (.ok (.val (.int (suitM b s m : Nat)))) := by
  have hsb : s * b ≤ 52 := Nat.mul_le_mul hs hb
  have hp : 0 < 2 ^ b := Nat.two_pow_pos b
  have hp2 : 2 ^ b ≤ 2 ^ 13 := Nat.pow_le_pow_right (by decide) hb
  have e2 : (2 : Int) ^ (b : Int).toNat - 1 = ((2 ^ b - 1 : Nat) : Int) := by
    rw [Int.toNat_natCast, pow_cast]
    omega
  refine of_suit_core T T' n n' hT a b m s _ ((s * b : Nat) : Int) ((2 ^ (s * b) * (2 ^ b - 1) : Nat) : Int) _ (powOk_nat (by decide) (by omega)) e2 (mul_nat (by omega)) (Int.natCast_mul s b).symm (powOk_nat (by omega) (by omega)) ?_ (and_nat _ _)
  rw [Int.toNat_natCast, pow_cast, ← Int.natCast_mul, Nat.mul_comm]
/-! ### lists of ints -/
def sIsInt : S := (.ret (.and (.isi (.var 0) .int) (.not (.isi (.var 0) .bool))))
def sInt : S := (.ret (.and (.call "_law_is_integer" (.cons (.var 0) .nil)) (.cmp .Eq (.var 0) (.var 1))))
def sBool : S := (.ret (.and (.isi (.var 0) .bool) (.cmp .Eq (.var 0) (.var 1))))
theorem is_int_ok (T : Fx) (n : Nat) (i : Int) : runP T n 1 sIsInt [.int i] = some (.ok (.val (.bool true))) := by
  unfold runP sIsInt
  simp [Fin.initE, Fin.ex, Fin.ev, Fin.evt, Fin.evs, Fin.evx, Fin.evi, Fin.Res.o, Fin.bndR, Fin.ofO, Fin.res, Fin.resL, Fin.frzS, Fin.bindL, Fin.bindT, Fin.okS, Fin.scalD, Fin.cmpD, Fin.biD, Fin.biLen, Fin.biInt, Fin.biAbs, Fin.dVal, Fin.RsT.of, Fin.truD, Fin.binD, Fin.binI, Fin.unD, Fin.mmD, Fin.mmAppend, Fin.isLst, Fin.isOwn, Fin.flI, Fin.flOf, Fin.ixD, Fin.callF, Fin.asVal, Fin.scalC, Fin.isVal, Fin.hasSl, Fin.setC, Fin.mulOk, Fin.Cell.frz, Fin.isiD, Fin.shp_int, Fin.shp_bool, Fin.shp_none, Fin.eqv_int, Fin.eqv_bool, Fin.eqv_bi, Fin.eqv_ib, Fin.atI_0, Fin.atI_1, Fin.atI_2, Fin.atI_3, Fin.isND]
theorem int_ok (T T' : Fx) (n n' : Nat) (hT : T.fns "_law_is_integer" = some (.pure (runP T' n' 1 sIsInt))) (i j : Int) : runP T n 2 sInt [.int i, .int j] = some (.ok (.val (.bool (decide (i = j))))) := by
  have h := is_int_ok T' n' i
  unfold runP sInt
  simp [Fin.initE, Fin.ex, Fin.ev, Fin.evt, Fin.evs, Fin.evx, Fin.evi, Fin.Res.o, Fin.bndR, Fin.ofO, Fin.res, Fin.resL, Fin.frzS, Fin.bindL, Fin.bindT, Fin.okS, Fin.scalD, Fin.cmpD, Fin.biD, Fin.biLen, Fin.biInt, Fin.biAbs, Fin.dVal, Fin.RsT.of, Fin.truD, Fin.binD, Fin.binI, Fin.unD, Fin.mmD, Fin.mmAppend, Fin.isLst, Fin.isOwn, Fin.flI, Fin.flOf, Fin.ixD, Fin.callF, Fin.asVal, Fin.scalC, Fin.isVal, Fin.hasSl, Fin.setC, Fin.mulOk, Fin.Cell.frz, Fin.isiD, Fin.shp_int, Fin.shp_bool, Fin.shp_none, Fin.eqv_int, Fin.eqv_bool, Fin.eqv_bi, Fin.eqv_ib, Fin.atI_0, Fin.atI_1, Fin.atI_2, Fin.atI_3, Fin.isND, hT, h]
theorem int_same (T T' : Fx) (n n' : Nat) (hT : T.fns "_law_is_integer" = some (.pure (runP T' n' 1 sIsInt))) (i j : Int) (hij : i = j) : runP T n 2 sInt [.int i, .int j] = some (.ok (.val (.bool true))) := by
  rw [int_ok T T' n n' hT i j, hij]
  simp
theorem bool_same (T : Fx) (n : Nat) (i j : Bool) (hij : i = j) : runP T n 2 sBool [.bool i, .bool j] = some (.ok (.val (.bool true))) := by
  subst hij
  unfold runP sBool
  simp [Fin.initE, Fin.ex, Fin.ev, Fin.evt, Fin.evs, Fin.evx, Fin.evi, Fin.Res.o, Fin.bndR, Fin.ofO, Fin.res, Fin.resL, Fin.frzS, Fin.bindL, Fin.bindT, Fin.okS, Fin.scalD, Fin.cmpD, Fin.biD, Fin.biLen, Fin.biInt, Fin.biAbs, Fin.dVal, Fin.RsT.of, Fin.truD, Fin.binD, Fin.binI, Fin.unD, Fin.mmD, Fin.mmAppend, Fin.isLst, Fin.isOwn, Fin.flI, Fin.flOf, Fin.ixD, Fin.callF, Fin.asVal, Fin.scalC, Fin.isVal, Fin.hasSl, Fin.setC, Fin.mulOk, Fin.Cell.frz, Fin.isiD, Fin.shp_int, Fin.shp_bool, Fin.shp_none, Fin.eqv_int, Fin.eqv_bool, Fin.eqv_bi, Fin.eqv_ib, Fin.atI_0, Fin.atI_1, Fin.atI_2, Fin.atI_3, Fin.isND]
def xInts : E := (.var 2)
def tInts : Te := (.not (.val (.call "_law_int" (.cons (.ix (.var 0) (.var 2)) (.cons (.ix (.var 1) (.var 2)) .nil)))))
def cInts : E := (.comp xInts 2 (.rng (.cons (.bi .len (.cons (.var 1) .nil)) .nil)) tInts)
def sInts : S := (.seq (.ite (.or (.not (.val (.isi (.var 0) .list))) (.val (.cmp .NotEq (.bi .len (.cons (.var 0) .nil)) (.bi .len (.cons (.var 1) .nil))))) (.ret (.c (.bool false))) .pass) (.ret (.cmp .Eq cInts (.lst .nil))))
theorem ints_same (T T' T2 : Fx) (n n' n2 : Nat) (hT : T.fns "_law_int" = some (.pure (runP T' n' 2 sInt))) (hT' : T'.fns "_law_is_integer" = some (.pure (runP T2 n2 1 sIsInt))) (h0 : T.lock0 = false) (xs : List Int) (hl : xs.length ≤ 1000) :
    runP T n 3 sInts [.list (xs.map PyData.int), .list (xs.map PyData.int)] = some (.ok (.val (.bool true))) := by
  have hc := compL_ok (t := evt T tInts) (f := fun e => Res.o (ev T xInts e)) (i := 2) (env := [some (.val (.list (xs.map PyData.int))), some (.val (.list (xs.map PyData.int))), none]) (fun _ => false) id rfl
    ((List.range xs.length).map fun (k : Nat) => PyData.int (0 + (k : Int))) [] (fun d hd => by
      obtain ⟨j, hj, rfl⟩ := List.mem_map.mp hd
      have hj' : j < xs.length := by simpa using hj
      have ga : L2.atI (xs.map PyData.int) (j : Int) = some (.int xs[j]) := L2.atI_nat (j := j) (by rw [List.getElem?_map, List.getElem?_eq_getElem hj']; rfl)
      have hs := int_same T' T2 n' n2 hT' xs[j] xs[j] rfl
      generalize xs[j] = x at *
      simp [Fin.initE, Fin.ex, Fin.ev, Fin.evt, Fin.evs, Fin.evx, Fin.evi, Fin.Res.o, Fin.bndR, Fin.ofO, Fin.res, Fin.resL, Fin.frzS, Fin.bindL, Fin.bindT, Fin.okS, Fin.scalD, Fin.cmpD, Fin.biD, Fin.biLen, Fin.biInt, Fin.biAbs, Fin.dVal, Fin.RsT.of, Fin.truD, Fin.binD, Fin.binI, Fin.unD, Fin.mmD, Fin.mmAppend, Fin.isLst, Fin.isOwn, Fin.flI, Fin.flOf, Fin.ixD, Fin.callF, Fin.asVal, Fin.scalC, Fin.isVal, Fin.hasSl, Fin.setC, Fin.mulOk, Fin.Cell.frz, Fin.isiD, Fin.shp_int, Fin.shp_bool, Fin.shp_none, Fin.eqv_int, Fin.eqv_bool, Fin.eqv_bi, Fin.eqv_ib, Fin.atI_0, Fin.atI_1, Fin.atI_2, Fin.atI_3, Fin.isND, tInts, hT, ga, hs]) (fun d _ h => by cases h) (by simp; omega)
  have h1 : List.filter (fun _ : D => false) ((List.range xs.length).map fun (k : Nat) => PyData.int (0 + (k : Int))) = [] := by simp
  rw [h1] at hc
  simp only [List.map_nil, List.append_nil] at hc
  have b1 : (-1000000 : Int) ≤ (xs.length : Int) ∧ (xs.length : Int) ≤ 1000000 := by omega
  have hi : evi T (.rng (.cons (.bi .len (.cons (.var 1) .nil)) .nil)) [some (.val (.list (xs.map PyData.int))), some (.val (.list (xs.map PyData.int))), none] = some (.ok ((List.range xs.length).map fun (k : Nat) => PyData.int (0 + (k : Int))) [some (.val (.list (xs.map PyData.int))), some (.val (.list (xs.map PyData.int))), none]) := by
    simp [Fin.initE, Fin.ex, Fin.ev, Fin.evt, Fin.evs, Fin.evx, Fin.evi, Fin.Res.o, Fin.bndR, Fin.ofO, Fin.res, Fin.resL, Fin.frzS, Fin.bindL, Fin.bindT, Fin.okS, Fin.scalD, Fin.cmpD, Fin.biD, Fin.biLen, Fin.biInt, Fin.biAbs, Fin.dVal, Fin.RsT.of, Fin.truD, Fin.binD, Fin.binI, Fin.unD, Fin.mmD, Fin.mmAppend, Fin.isLst, Fin.isOwn, Fin.flI, Fin.flOf, Fin.ixD, Fin.callF, Fin.asVal, Fin.scalC, Fin.isVal, Fin.hasSl, Fin.setC, Fin.mulOk, Fin.Cell.frz, Fin.isiD, Fin.shp_int, Fin.shp_bool, Fin.shp_none, Fin.eqv_int, Fin.eqv_bool, Fin.eqv_bi, Fin.eqv_ib, Fin.atI_0, Fin.atI_1, Fin.atI_2, Fin.atI_3, Fin.isND, b1]
  have he : ev T cInts _ = _ := ev_comp (T := T) (elt := xInts) (i := 2) (cnd := tInts) hi (by simp [okS, h0]) hc
  refine runP_d (env := [some (.val (.list (xs.map PyData.int))), some (.val (.list (xs.map PyData.int))), none]) ?_
  refine (seq_nx (e1 := [some (.val (.list (xs.map PyData.int))), some (.val (.list (xs.map PyData.int))), none]) ?_).trans ?_
  · simp [Fin.initE, Fin.ex, Fin.ev, Fin.evt, Fin.evs, Fin.evx, Fin.evi, Fin.Res.o, Fin.bndR, Fin.ofO, Fin.res, Fin.resL, Fin.frzS, Fin.bindL, Fin.bindT, Fin.okS, Fin.scalD, Fin.cmpD, Fin.biD, Fin.biLen, Fin.biInt, Fin.biAbs, Fin.dVal, Fin.RsT.of, Fin.truD, Fin.binD, Fin.binI, Fin.unD, Fin.mmD, Fin.mmAppend, Fin.isLst, Fin.isOwn, Fin.flI, Fin.flOf, Fin.ixD, Fin.callF, Fin.asVal, Fin.scalC, Fin.isVal, Fin.hasSl, Fin.setC, Fin.mulOk, Fin.Cell.frz, Fin.isiD, Fin.shp_int, Fin.shp_bool, Fin.shp_none, Fin.eqv_int, Fin.eqv_bool, Fin.eqv_bi, Fin.eqv_ib, Fin.atI_0, Fin.atI_1, Fin.atI_2, Fin.atI_3, Fin.isND]
  · simp [Fin.initE, Fin.ex, Fin.ev, Fin.evt, Fin.evs, Fin.evx, Fin.evi, Fin.Res.o, Fin.bndR, Fin.ofO, Fin.res, Fin.resL, Fin.frzS, Fin.bindL, Fin.bindT, Fin.okS, Fin.scalD, Fin.cmpD, Fin.biD, Fin.biLen, Fin.biInt, Fin.biAbs, Fin.dVal, Fin.RsT.of, Fin.truD, Fin.binD, Fin.binI, Fin.unD, Fin.mmD, Fin.mmAppend, Fin.isLst, Fin.isOwn, Fin.flI, Fin.flOf, Fin.ixD, Fin.callF, Fin.asVal, Fin.scalC, Fin.isVal, Fin.hasSl, Fin.setC, Fin.mulOk, Fin.Cell.frz, Fin.isiD, Fin.shp_int, Fin.shp_bool, Fin.shp_none, Fin.eqv_int, Fin.eqv_bool, Fin.eqv_bi, Fin.eqv_ib, Fin.atI_0, Fin.atI_1, Fin.atI_2, Fin.atI_3, Fin.isND, he, back, PyData.eqv, shp, SeqAt.shaped, PyData.canLay0, PyData.canLayAll0, PyData.depth, PyData.depthAll, PyData.eqvAll]
end Fin
/-! Fin 25: cards of masks as the laws list them; lengths by suits. -/
namespace Fin
open PySem PySem.Spec PyProof.Rows L2
def onI (p : Int → Bool) (d : D) : Bool := match d with
  | .int i => p i
  | _ => false
theorem tCards_core (T : Fx) (m k : Int) (v : Bool) (hk : 0 ≤ k) (hv : decide (Builtin.bitAnd (m / 2 ^ k.toNat) 1 = 1) = v) : evt T tCards [some (.val (.int m)), some (.val (.int k))] = some (.ok v [some (.val (.int m)), some (.val (.int k))]) := by
  subst hv
  unfold tCards
  simp [Fin.initE, Fin.ex, Fin.ev, Fin.evt, Fin.evs, Fin.evx, Fin.evi, Fin.Res.o, Fin.bndR, Fin.ofO, Fin.res, Fin.resL, Fin.frzS, Fin.bindL, Fin.bindT, Fin.okS, Fin.scalD, Fin.cmpD, Fin.biD, Fin.biLen, Fin.biInt, Fin.biAbs, Fin.dVal, Fin.RsT.of, Fin.truD, Fin.binD, Fin.binI, Fin.unD, Fin.mmD, Fin.mmAppend, Fin.isLst, Fin.isOwn, Fin.flI, Fin.flOf, Fin.ixD, Fin.callF, Fin.asVal, Fin.scalC, Fin.isVal, Fin.hasSl, Fin.setC, Fin.mulOk, Fin.Cell.frz, Fin.isiD, Fin.shp_int, Fin.shp_bool, Fin.shp_none, Fin.eqv_int, Fin.eqv_bool, Fin.eqv_bi, Fin.eqv_ib, Fin.atI_0, Fin.atI_1, Fin.atI_2, Fin.atI_3, Fin.isND, hk]
def cCards : E := (.comp xCards 1 (.rng (.cons (.bm .bits (.var 0) .nil) .nil)) tCards)
theorem hi_core (T : Fx) (m : Int) (B : Nat) (hB : Builtin.Int.intBits m = B) (b2 : (-1000000 : Int) ≤ B ∧ (B : Int) ≤ 1000000) : evi T (.rng (.cons (.bm .bits (.var 0) .nil) .nil)) [some (.val (.int m)), none] = some (.ok ((List.range B).map fun (k : Nat) => PyData.int (0 + (k : Int))) [some (.val (.int m)), none]) := by
  simp [Fin.initE, Fin.ex, Fin.ev, Fin.evt, Fin.evs, Fin.evx, Fin.evi, Fin.Res.o, Fin.bndR, Fin.ofO, Fin.res, Fin.resL, Fin.frzS, Fin.bindL, Fin.bindT, Fin.okS, Fin.scalD, Fin.cmpD, Fin.biD, Fin.biLen, Fin.biInt, Fin.biAbs, Fin.dVal, Fin.RsT.of, Fin.truD, Fin.binD, Fin.binI, Fin.unD, Fin.mmD, Fin.mmAppend, Fin.isLst, Fin.isOwn, Fin.flI, Fin.flOf, Fin.ixD, Fin.callF, Fin.asVal, Fin.scalC, Fin.isVal, Fin.hasSl, Fin.setC, Fin.mulOk, Fin.Cell.frz, Fin.isiD, Fin.shp_int, Fin.shp_bool, Fin.shp_none, Fin.eqv_int, Fin.eqv_bool, Fin.eqv_bi, Fin.eqv_ib, Fin.atI_0, Fin.atI_1, Fin.atI_2, Fin.atI_3, Fin.isND, bmT, bmD, hB, b2]
theorem ex_ret {T : Fx} {n : Nat} {e : E} {env e1 : Fin.Env} {v : Val} (h : ev T e env = some (.ok v e1)) : ex T n (.ret e) env = some (.rt v e1) := by simp only [ex, h]
theorem law_cards_ok (T : Fx) (n N m : Nat) (h0 : T.lock0 = false) (hN : N ≤ 1000) (hm : m < 2 ^ N) : runP T n 2 sCards [.int m] = some (.ok (.lst (NI (bl N m)))) := by
  have hc := compL_ok (t := evt T tCards) (f := fun e => Res.o (ev T xCards e)) (i := 1) (env := [some (.val (.int m)), none]) (onI fun i => m.testBit i.toNat) id rfl
    ((List.range (Builtin.Int.intBits (m : Int))).map fun (k : Nat) => PyData.int (0 + (k : Int))) [] (fun d hd => by
      obtain ⟨k, hk, rfl⟩ := List.mem_map.mp hd
      have e := tCards_core T m (0 + (k : Int)) (m.testBit (0 + (k : Int)).toNat) (by omega) (by
        have := shr_bit m k
        simpa using this)
      exact e) (fun d hd _ => by
      simp [Fin.initE, Fin.ex, Fin.ev, Fin.evt, Fin.evs, Fin.evx, Fin.evi, Fin.Res.o, Fin.bndR, Fin.ofO, Fin.res, Fin.resL, Fin.frzS, Fin.bindL, Fin.bindT, Fin.okS, Fin.scalD, Fin.cmpD, Fin.biD, Fin.biLen, Fin.biInt, Fin.biAbs, Fin.dVal, Fin.RsT.of, Fin.truD, Fin.binD, Fin.binI, Fin.unD, Fin.mmD, Fin.mmAppend, Fin.isLst, Fin.isOwn, Fin.flI, Fin.flOf, Fin.ixD, Fin.callF, Fin.asVal, Fin.scalC, Fin.isVal, Fin.hasSl, Fin.setC, Fin.mulOk, Fin.Cell.frz, Fin.isiD, Fin.shp_int, Fin.shp_bool, Fin.shp_none, Fin.eqv_int, Fin.eqv_bool, Fin.eqv_bi, Fin.eqv_ib, Fin.atI_0, Fin.atI_1, Fin.atI_2, Fin.atI_3, Fin.isND, xCards]) (by have := bits_nat m N hm; simp; omega)
  have e1 : (((List.range (Builtin.Int.intBits (m : Int))).map fun (k : Nat) => PyData.int (0 + (k : Int))).filter (onI fun i => m.testBit i.toNat)).map id = NI (bl N m) := by
    rw [List.map_id, List.filter_map, ← bl_bits m N hm]
    unfold bl NI
    have e2 : ((onI fun i => m.testBit i.toNat) ∘ fun (k : Nat) => PyData.int (0 + (k : Int))) = fun i => m.testBit i := by
      funext k
      simp [onI]
    rw [e2]
    apply List.map_congr_left
    intro k _
    simp
  rw [e1] at hc
  simp only [List.nil_append] at hc
  have b1 := bits_nat m N hm
  have b2 : (-1000000 : Int) ≤ (Builtin.Int.intBits (m : Int) : Nat) ∧ ((Builtin.Int.intBits (m : Int) : Nat) : Int) ≤ 1000000 := by omega
  have hi := hi_core T m _ rfl b2
  have he : ev T cCards _ = _ := ev_comp (T := T) (elt := xCards) (i := 1) (cnd := tCards) hi (by simp [okS, h0]) hc
  refine runP_fr (env := [some (.val (.int m)), none]) ?_
  exact ex_ret he
def lens (a b : Nat) (l : List Nat) : List Int := (List.range a).map fun s => (((l.filter (inS b s)).length : Nat) : Int)
theorem lens_len (a b : Nat) (l : List Nat) : (lens a b l).length = a := by simp [lens]
theorem lens_get (a b : Nat) (l : List Nat) (s : Nat) (h : s < a) : (lens a b l)[s]? = some (((l.filter (inS b s)).length : Nat) : Int) := by simp [lens, h]
theorem lens_step (a b : Nat) (pre : List Nat) (x : Nat) (hb : 0 < b) : (lens a b pre).set (x / b) ((((pre.filter (inS b (x / b))).length : Nat) : Int) + 1) = lens a b (pre ++ [x]) := by
  apply List.ext_getElem?
  intro s
  rw [List.getElem?_set]
  by_cases hs : s < a
  · rw [lens_get _ _ _ _ hs, lens_get _ _ _ _ hs]
    by_cases e : x / b = s
    · subst e
      have : inS b (x / b) x = true := by rw [inS_div hb]; simp
      simp [lens_len, hs, this]
    · have : inS b s x = false := by rw [inS_div hb]; simp [e]
      simp [e, this]
  · have e1 : (lens a b pre)[s]? = none := by simp [lens]; omega
    have e2 : (lens a b (pre ++ [x]))[s]? = none := by simp [lens]; omega
    rw [e1, e2]
    split
    · rename_i h; subst h; simp [lens_len, hs]
    · rfl
theorem lens_nil (a b : Nat) : (lens a b []).map PyData.int = (List.replicate a [PyData.int 0]).flatten := by
  simp only [lens, List.filter_nil, List.length_nil, List.map_map]
  apply List.ext_getElem?
  intro i
  have e : (List.replicate a [PyData.int 0]).flatten = List.replicate a (PyData.int 0) := by
    induction a with
    | zero => rfl
    | succ a ih => rw [List.replicate_succ, List.flatten_cons, ih, List.replicate_succ]; rfl
  rw [e]
  by_cases h : i < a <;> simp [h]
/-! ### shapes of lists of ints -/
theorem canLay_ints (xs : List Int) : PyData.canLayAll0 (xs.map PyData.int) = true := by
  induction xs with
  | nil => simp [PyData.canLayAll0]
  | cons x xs ih => simp [PyData.canLayAll0, PyData.canLay0, ih]
theorem depth_ints (xs : List Int) : PyData.depthAll (xs.map PyData.int) ≤ 1 := by
  induction xs with
  | nil => simp [PyData.depthAll]
  | cons x xs ih =>
    simp only [List.map_cons, PyData.depthAll, PyData.depth]
    omega
theorem shp_ints (xs : List Int) : shp (.list (xs.map PyData.int)) = true := by
  have h := depth_ints xs
  have h2 : PyData.depth (.list (xs.map PyData.int)) ≤ 64 := by
    simp only [PyData.depth]
    omega
  unfold shp SeqAt.shaped
  rw [PyData.canLay0, canLay_ints, decide_eq_true h2]
  rfl
theorem eqvAll_ints : ∀ xs ys : List Int, PyData.eqvAll (xs.map PyData.int) (ys.map PyData.int) = decide (xs = ys)
  | [], [] => by simp [PyData.eqvAll]
  | [], y :: ys => by simp [PyData.eqvAll]
  | x :: xs, [] => by simp [PyData.eqvAll]
  | x :: xs, y :: ys => by simp [PyData.eqvAll, eqvAll_ints xs ys, eqv_int]
theorem eqv_ints (xs ys : List Int) : PyData.eqv (.list (xs.map PyData.int)) (.list (ys.map PyData.int)) = decide (xs = ys) := by
  simp only [PyData.eqv, eqvAll_ints]
theorem NI_ints (l : List Nat) : NI l = (l.map fun (i : Nat) => (i : Int)).map PyData.int := by simp [NI]
theorem shp_NI (l : List Nat) : shp (.list (NI l)) = true := by rw [NI_ints]; exact shp_ints _
theorem eqv_NI (l : List Nat) : PyData.eqv (.list (NI l)) (.list (NI l)) = true := by rw [NI_ints, eqv_ints]; simp
theorem eqvAll_NI (l : List Nat) : PyData.eqvAll (NI l) (NI l) = true := by rw [NI_ints, eqvAll_ints]; simp
theorem NI_len (l : List Nat) : (NI l).length = l.length := by simp [NI]
theorem bl_wide {N B m : Nat} (hN : N ≤ B) (hm : m < 2 ^ N) : bl B m = bl N m := by
  obtain ⟨d, rfl⟩ := Nat.exists_eq_add_of_le hN
  unfold bl
  rw [List.range_add, List.filter_append]
  have : (List.map (N + ·) (List.range d)).filter (fun i => m.testBit i) = [] := List.filter_eq_nil_iff.mpr fun i hi => by
    obtain ⟨x, _, rfl⟩ := List.mem_map.mp hi
    rw [Nat.testBit_lt_two_pow (Nat.lt_of_lt_of_le hm (Nat.pow_le_pow_right (by decide) (by omega)))]
    decide
  rw [this, List.append_nil]
theorem mem_bl {N m i : Nat} : i ∈ bl N m ↔ i < N ∧ m.testBit i = true := by simp [bl, List.mem_filter]
/-! ### masks of lists -/
def orM (l : List Nat) : Nat := l.foldl (fun m i => m ||| 2 ^ i) 0
theorem orM_snoc (l : List Nat) (x : Nat) : orM (l ++ [x]) = orM l ||| 2 ^ x := by simp [orM, List.foldl_append]
theorem orF_bit (i : Nat) : ∀ (l : List Nat) (m : Nat), (l.foldl (fun m i => m ||| 2 ^ i) m).testBit i = (m.testBit i || decide (i ∈ l))
  | [], m => by simp
  | x :: l, m => by
    rw [List.foldl_cons, orF_bit i l, Nat.testBit_or, Nat.testBit_two_pow]
    by_cases h : x = i
    · subst h; simp
    · have h2 : ¬ i = x := fun e => h e.symm
      simp [h, h2]
theorem orM_bl {m N : Nat} {l : List Nat} (hm : m < 2 ^ N) (h : ∀ i, i ∈ l ↔ i ∈ bl N m) : orM l = m := by
  apply Nat.eq_of_testBit_eq
  intro i
  unfold orM
  rw [orF_bit, Nat.zero_testBit, Bool.false_or]
  by_cases hi : i < N
  · have h2 := h i
    rw [mem_bl] at h2
    by_cases z : m.testBit i = true
    · rw [z, decide_eq_true_eq]; exact h2.mpr ⟨hi, z⟩
    · have : ¬ i ∈ l := fun q => z (h2.mp q).2
      simp [this, z]
  · have e : m.testBit i = false := Nat.testBit_lt_two_pow (Nat.lt_of_lt_of_le hm (Nat.pow_le_pow_right (by decide) (by omega)))
    have : ¬ i ∈ l := fun q => by
      have := mem_bl.mp ((h i).mp q)
      omega
    rw [e]
    simp [this]
def sumM (l : List Nat) : Nat := (l.map (2 ^ ·)).sum
theorem sumM_snoc (l : List Nat) (x : Nat) : sumM (l ++ [x]) = sumM l + 2 ^ x := by simp [sumM]
theorem sumM_succ (l : List Nat) : sumM (l.map (· + 1)) = 2 * sumM l := by
  induction l with
  | nil => rfl
  | cons x l ih =>
    simp only [sumM, List.map_cons, List.sum_cons] at *
    rw [ih, Nat.pow_succ]
    omega
theorem sum_bl : ∀ (N m : Nat), m < 2 ^ N → sumM (bl N m) = m
  | 0, m, h => by
    have : m = 0 := by simpa using h
    subst this
    rfl
  | N + 1, m, h => by
    have ih := sum_bl N (m / 2) (by rw [Nat.pow_succ] at h; omega)
    have e : bl (N + 1) m = (if m % 2 = 1 then [0] else []) ++ (bl N (m / 2)).map (· + 1) := by
      unfold bl
      rw [List.range_succ_eq_map, List.filter_cons, List.filter_map]
      have e : ((fun i => m.testBit i) ∘ Nat.succ) = fun i => (m / 2).testBit i := by
        funext i
        exact Nat.testBit_succ m i
      rw [e, Nat.testBit_zero]
      by_cases h : m % 2 = 1 <;> simp [h]
    have e2 : ∀ a b : List Nat, sumM (a ++ b) = sumM a + sumM b := fun a b => by simp [sumM]
    rw [e, e2, sumM_succ, ih]
    by_cases z : m % 2 = 1
    · rw [if_pos z]; simp [sumM]; omega
    · rw [if_neg z]; simp [sumM]; omega
def bMaskOf : S := (.aug 1 .BitOr (.bin .LShift (.c (.int 1)) (.var 2)))
def fMaskOf : S := (.for_ (.one 2) (.seq (.var 0)) bMaskOf)
def sMaskOf : S := (.seq (.set 1 (.c (.int 0))) (.seq fMaskOf (.ret (.var 1))))
theorem mask_of_core (T : Fx) (n : Nat) (c0 : Option Cell) (m x p q : Int) (h0 : T.lock0 = false) (h1 : powOk 1 x = true) (h2 : 2 ^ x.toNat = p) (h3 : Builtin.bitOr m p = q) :
    ex T n bMaskOf [c0, some (.val (.int m)), some (.val (.int x))] = some (.nx [c0, some (.val (.int q)), some (.val (.int x))]) := by
  unfold bMaskOf
  simp [Fin.initE, Fin.ex, Fin.ev, Fin.evt, Fin.evs, Fin.evx, Fin.evi, Fin.Res.o, Fin.bndR, Fin.ofO, Fin.res, Fin.resL, Fin.frzS, Fin.bindL, Fin.bindT, Fin.okS, Fin.scalD, Fin.cmpD, Fin.biD, Fin.biLen, Fin.biInt, Fin.biAbs, Fin.dVal, Fin.RsT.of, Fin.truD, Fin.binD, Fin.binI, Fin.unD, Fin.mmD, Fin.mmAppend, Fin.isLst, Fin.isOwn, Fin.flI, Fin.flOf, Fin.ixD, Fin.callF, Fin.asVal, Fin.scalC, Fin.isVal, Fin.hasSl, Fin.setC, Fin.mulOk, Fin.Cell.frz, Fin.isiD, Fin.shp_int, Fin.shp_bool, Fin.shp_none, Fin.eqv_int, Fin.eqv_bool, Fin.eqv_bi, Fin.eqv_ib, Fin.atI_0, Fin.atI_1, Fin.atI_2, Fin.atI_3, Fin.isND, h0, h1, h2, h3]
theorem mask_of_ok (T : Fx) (n : Nat) (l : List Nat) (h0 : T.lock0 = false) (hl : ∀ i ∈ l, i ≤ 1000) : runP T n 3 sMaskOf [.list (NI l)] = some (.ok (.val (.int (orM l : Nat)))) := by
  obtain ⟨env', h1, c2, h2⟩ := forL_pre (T := T) (t := .one 2) (f := ex T n bMaskOf) (fun (i : Nat) => PyData.int (i : Int)) l
    (fun pre e => ∃ c2, e = [some (.val (.list (NI l))), some (.val (.int (orM pre : Nat))), c2]) (env := [some (.val (.list (NI l))), some (.val (.int 0)), none]) ⟨none, rfl⟩ fun pre x post e hlx ⟨c2, he⟩ => by
      subst he
      have hx : x ≤ 1000 := hl x (by rw [hlx]; simp)
      refine ⟨_, _, by simp [bindT, okS, h0]; rfl, .inl (mask_of_core T n _ (orM pre : Nat) x _ _ h0 (powOk_nat (by decide) (by omega)) (by rw [Int.toNat_natCast, pow_cast]) (or_nat _ _)), some (.val (.int x)), ?_⟩
      rw [orM_snoc]
  subst h2
  have hs : evi T (.seq (.var 0)) [some (.val (.list (NI l))), some (.val (.int 0)), none] = some (.ok (l.map fun (i : Nat) => PyData.int (i : Int)) [some (.val (.list (NI l))), some (.val (.int 0)), none]) := by
    unfold NI
    generalize (l.map fun (i : Nat) => PyData.int (i : Int)) = L
    simp [Fin.initE, Fin.ex, Fin.ev, Fin.evt, Fin.evs, Fin.evx, Fin.evi, Fin.Res.o, Fin.bndR, Fin.ofO, Fin.res, Fin.resL, Fin.frzS, Fin.bindL, Fin.bindT, Fin.okS, Fin.scalD, Fin.cmpD, Fin.biD, Fin.biLen, Fin.biInt, Fin.biAbs, Fin.dVal, Fin.RsT.of, Fin.truD, Fin.binD, Fin.binI, Fin.unD, Fin.mmD, Fin.mmAppend, Fin.isLst, Fin.isOwn, Fin.flI, Fin.flOf, Fin.ixD, Fin.callF, Fin.asVal, Fin.scalC, Fin.isVal, Fin.hasSl, Fin.setC, Fin.mulOk, Fin.Cell.frz, Fin.isiD, Fin.shp_int, Fin.shp_bool, Fin.shp_none, Fin.eqv_int, Fin.eqv_bool, Fin.eqv_bi, Fin.eqv_ib, Fin.atI_0, Fin.atI_1, Fin.atI_2, Fin.atI_3, Fin.isND]
  have hf : ex T n fMaskOf _ = _ := ex_for hs h1
  refine runP_d (env := [some (.val (.list (NI l))), some (.val (.int (orM l : Nat))), c2]) ?_
  refine seq_st (e1 := [some (.val (.list (NI l))), some (.val (.int 0)), none]) ?_ (seq_st hf ?_)
  · generalize NI l = L
    simp [Fin.initE, Fin.ex, Fin.ev, Fin.evt, Fin.evs, Fin.evx, Fin.evi, Fin.Res.o, Fin.bndR, Fin.ofO, Fin.res, Fin.resL, Fin.frzS, Fin.bindL, Fin.bindT, Fin.okS, Fin.scalD, Fin.cmpD, Fin.biD, Fin.biLen, Fin.biInt, Fin.biAbs, Fin.dVal, Fin.RsT.of, Fin.truD, Fin.binD, Fin.binI, Fin.unD, Fin.mmD, Fin.mmAppend, Fin.isLst, Fin.isOwn, Fin.flI, Fin.flOf, Fin.ixD, Fin.callF, Fin.asVal, Fin.scalC, Fin.isVal, Fin.hasSl, Fin.setC, Fin.mulOk, Fin.Cell.frz, Fin.isiD, Fin.shp_int, Fin.shp_bool, Fin.shp_none, Fin.eqv_int, Fin.eqv_bool, Fin.eqv_bi, Fin.eqv_ib, Fin.atI_0, Fin.atI_1, Fin.atI_2, Fin.atI_3, Fin.isND, h0]
  · generalize NI l = L
    simp [Fin.initE, Fin.ex, Fin.ev, Fin.evt, Fin.evs, Fin.evx, Fin.evi, Fin.Res.o, Fin.bndR, Fin.ofO, Fin.res, Fin.resL, Fin.frzS, Fin.bindL, Fin.bindT, Fin.okS, Fin.scalD, Fin.cmpD, Fin.biD, Fin.biLen, Fin.biInt, Fin.biAbs, Fin.dVal, Fin.RsT.of, Fin.truD, Fin.binD, Fin.binI, Fin.unD, Fin.mmD, Fin.mmAppend, Fin.isLst, Fin.isOwn, Fin.flI, Fin.flOf, Fin.ixD, Fin.callF, Fin.asVal, Fin.scalC, Fin.isVal, Fin.hasSl, Fin.setC, Fin.mulOk, Fin.Cell.frz, Fin.isiD, Fin.shp_int, Fin.shp_bool, Fin.shp_none, Fin.eqv_int, Fin.eqv_bool, Fin.eqv_bi, Fin.eqv_ib, Fin.atI_0, Fin.atI_1, Fin.atI_2, Fin.atI_3, Fin.isND]
end Fin
/-! Fin W1: what is wanted behind a run, step by step: equations for simp. -/
namespace Fin
open PySem PySem.Spec PyProof.Rows L2
def wR (T : Fx) (e : E) (env : Env) (Q : Res → Prop) : Prop := ∃ r, ev T e env = some r ∧ Q r
def wE (T : Fx) (e : E) (env : Env) (Q : Res → Prop) : Prop := ∃ r, Res.o (ev T e env) = some r ∧ Q r
def wEs (T : Fx) (es : Es) (env : Env) (Q : RsL → Prop) : Prop := ∃ r, evs T es env = some r ∧ Q r
def wT (T : Fx) (t : Te) (env : Env) (Q : RsT → Prop) : Prop := ∃ r, evt T t env = some r ∧ Q r
def wI (T : Fx) (t : It) (env : Env) (Q : RsI → Prop) : Prop := ∃ r, evi T t env = some r ∧ Q r
def wS (T : Fx) (n : Nat) (s : S) (env : Env) (Q : Out → Prop) : Prop := ∃ r, ex T n s env = some r ∧ Q r
def wO {α : Type} (o : Option α) (K : α → Prop) : Prop := ∃ a, o = some a ∧ K a
theorem wO_some {α : Type} (a : α) (K : α → Prop) : wO (some a) K = K a := by simp [wO]
theorem wO_none {α : Type} (K : α → Prop) : wO none K = False := by simp [wO]
theorem wO_if {α : Type} {c : Prop} [Decidable c] (a : Option α) (K : α → Prop) : wO (if c then a else none) K = (c ∧ wO a K) := by
  by_cases h : c <;> simp [h, wO]
theorem wO_map {α β : Type} (o : Option α) (f : α → β) (K : β → Prop) : wO (o.map f) K = wO o (fun a => K (f a)) := by
  cases o <;> simp [wO]
/-! ### operands -/
def kO (Q : Res → Prop) : Res → Prop
  | .ok (.fr c) e => wO c.frz fun d => Q (.ok (.d d) e)
  | r => Q r
theorem wE_eq (T : Fx) (e : E) (env : Env) (Q : Res → Prop) : wE T e env Q = wR T e env (kO Q) := by
  unfold wE wR
  apply propext
  constructor
  · rintro ⟨r, h, q⟩
    cases h2 : ev T e env with
    | none => rw [h2] at h; simp [Res.o] at h
    | some r2 =>
      rw [h2] at h
      refine ⟨r2, rfl, ?_⟩
      cases r2 with
      | exc c e => simp [Res.o] at h; subst h; exact q
      | ok v e =>
        cases v with
        | d d => simp [Res.o] at h; subst h; exact q
        | sl i => simp [Res.o] at h; subst h; exact q
        | fr c =>
          simp only [Res.o] at h
          cases h3 : c.frz with
          | none => rw [h3] at h; cases h
          | some d => rw [h3] at h; cases h; exact ⟨d, h3, q⟩
  · rintro ⟨r, h, q⟩
    rw [h]
    cases r with
    | exc c e => exact ⟨_, rfl, q⟩
    | ok v e =>
      cases v with
      | d d => exact ⟨_, rfl, q⟩
      | sl i => exact ⟨_, rfl, q⟩
      | fr c =>
        obtain ⟨d, h3, q⟩ := q
        exact ⟨_, by simp only [Res.o, h3], q⟩
theorem kO_d (Q : Res → Prop) (d : D) (e : Env) : kO Q (.ok (.d d) e) = Q (.ok (.d d) e) := rfl
theorem kO_sl (Q : Res → Prop) (i : Nat) (e : Env) : kO Q (.ok (.sl i) e) = Q (.ok (.sl i) e) := rfl
theorem kO_lst (Q : Res → Prop) (xs : List D) (e : Env) : kO Q (.ok (.fr (.lst xs)) e) = Q (.ok (.d (.list xs)) e) := by simp [kO, Cell.frz, wO]
theorem kO_exc (Q : Res → Prop) (c : Str) (e : Env) : kO Q (.exc c e) = Q (.exc c e) := rfl
/-! ### names, constants -/
def kVar (i : Nat) (env : Env) (Q : Res → Prop) : Option (Option Cell) → Prop
  | some (some (.val d)) => Q (.ok (.d d) env)
  | some (some _) => Q (.ok (.sl i) env)
  | _ => False
theorem wR_var (T : Fx) (i : Nat) (env : Env) (Q : Res → Prop) : wR T (.var i) env Q = kVar i env Q env[i]? := by
  unfold wR
  cases h : env[i]? with
  | none => simp [ev, h, kVar]
  | some o =>
    cases o with
    | none => simp [ev, h, kVar]
    | some c => cases c <;> simp [ev, h, kVar]
theorem kVar_val (i : Nat) (env : Env) (Q : Res → Prop) (d : D) : kVar i env Q (some (some (.val d))) = Q (.ok (.d d) env) := rfl
theorem kVar_lst (i : Nat) (env : Env) (Q : Res → Prop) (xs : List D) : kVar i env Q (some (some (.lst xs))) = Q (.ok (.sl i) env) := rfl
theorem kVar_dic (i : Nat) (env : Env) (Q : Res → Prop) (xs : List (Key × D)) : kVar i env Q (some (some (.dic xs))) = Q (.ok (.sl i) env) := rfl
theorem kVar_exc (i : Nat) (env : Env) (Q : Res → Prop) (x : Str) : kVar i env Q (some (some (.exc x))) = Q (.ok (.sl i) env) := rfl
theorem wR_int (T : Fx) (i : Int) (env : Env) (Q : Res → Prop) : wR T (.c (.int i)) env Q = Q (.ok (.d (.int i)) env) := by simp [wR, ev, scalD]
theorem wR_str (T : Fx) (i : Str) (env : Env) (Q : Res → Prop) : wR T (.c (.str i)) env Q = Q (.ok (.d (.str i)) env) := by simp [wR, ev, scalD]
theorem wR_bool (T : Fx) (i : Bool) (env : Env) (Q : Res → Prop) : wR T (.c (.bool i)) env Q = Q (.ok (.d (.bool i)) env) := by simp [wR, ev, scalD]
theorem wR_none (T : Fx) (env : Env) (Q : Res → Prop) : wR T (.c .none) env Q = Q (.ok (.d .none) env) := by simp [wR, ev, scalD]
def kRd0 (e : Env) (Q : Res → Prop) (v : D) : Prop := Q (.ok (.d v) e)
theorem kRd0_eq (e : Env) (Q : Res → Prop) (v : D) : kRd0 e Q v = Q (.ok (.d v) e) := rfl
theorem wR_glob (T : Fx) (x : Str) (env : Env) (Q : Res → Prop) : wR T (.glob x) env Q = wO (T.cons x) (kRd0 env Q) := by
  unfold wR wO kRd0
  cases h : T.cons x <;> simp [ev, h]
/-! ### two operands -/
def k1 (Q : Res → Prop) (k : Val → Env → Prop) : Res → Prop
  | .ok v e => k v e
  | .exc c e => Q (.exc c e)
theorem bnd_eq (r : Option Res) (k : Val → Env → Option Res) (Q : Res → Prop) : (∃ x, bndR r k = some x ∧ Q x) = ∃ x, r = some x ∧ k1 Q (fun v e => ∃ y, k v e = some y ∧ Q y) x := by
  cases r with
  | none => simp [bndR]
  | some r => cases r <;> simp [bndR, k1]
theorem ofO_eq {α : Type} (o : Option α) (f : α → Option Res) (Q : Res → Prop) : (∃ y, ofO o f = some y ∧ Q y) = wO o fun a => ∃ y, f a = some y ∧ Q y := by
  cases o <;> simp [ofO, wO]
theorem some_ok {v : Val} {e : Env} {Q : Res → Prop} : (∃ y, some (Res.ok v e) = some y ∧ Q y) = Q (.ok v e) := by simp
def wBin (op : Operator) (dx dy : D) (K : Val → Prop) : Prop := wO (binD op dx dy) K
def wCmp (op : CmpOp) (dx dy : D) (K : Bool → Prop) : Prop := wO (cmpD op dx dy) K
def kRv (e : Env) (Q : Res → Prop) (v : Val) : Prop := Q (.ok v e)
theorem kRv_eq (e : Env) (Q : Res → Prop) (v : Val) : kRv e Q v = Q (.ok v e) := rfl
def kRb (e : Env) (Q : Res → Prop) (v : Bool) : Prop := Q (.ok (.d (.bool v)) e)
theorem kRb_eq (e : Env) (Q : Res → Prop) (v : Bool) : kRb e Q v = Q (.ok (.d (.bool v)) e) := rfl
def kRd (e : Env) (Q : Res → Prop) (v : D) : Prop := Q (.ok (.d v) e)
theorem kRd_eq (e : Env) (Q : Res → Prop) (v : D) : kRd e Q v = Q (.ok (.d v) e) := rfl
/-- what is done with two operands -/
inductive O2 where
  | bin (op : Operator) | cmp (op : CmpOp) | ix | b2 (f : B2)
def w2 (o : O2) (dx dy : D) (e : Env) (Q : Res → Prop) : Prop := match o with
  | .bin op => wBin op dx dy (kRv e Q)
  | .cmp op => wCmp op dx dy (kRb e Q)
  | .ix => wO (ixD dx dy) (kRd e Q)
  | .b2 f => wO (b2D f dx dy) (kRv e Q)
theorem w2_bin (op : Operator) (dx dy : D) (e : Env) (Q : Res → Prop) : w2 (.bin op) dx dy e Q = wBin op dx dy (kRv e Q) := rfl
theorem w2_cmp (op : CmpOp) (dx dy : D) (e : Env) (Q : Res → Prop) : w2 (.cmp op) dx dy e Q = wCmp op dx dy (kRb e Q) := rfl
theorem w2_ix (dx dy : D) (e : Env) (Q : Res → Prop) : w2 .ix dx dy e Q = wO (ixD dx dy) (kRd e Q) := rfl
theorem w2_b2 (f : B2) (dx dy : D) (e : Env) (Q : Res → Prop) : w2 (.b2 f) dx dy e Q = wO (b2D f dx dy) (kRv e Q) := rfl
def kO4 (o : O2) (dx : D) (e : Env) (Q : Res → Prop) (dy : D) : Prop := w2 o dx dy e Q
theorem kO4_eq (o : O2) (dx : D) (e : Env) (Q : Res → Prop) (dy : D) : kO4 o dx e Q dy = w2 o dx dy e Q := rfl
def kO3 (o : O2) (y : Val) (e : Env) (Q : Res → Prop) (dx : D) : Prop := wO (res e y) (kO4 o dx e Q)
theorem kO3_eq (o : O2) (y : Val) (e : Env) (Q : Res → Prop) (dx : D) : kO3 o y e Q dx = wO (res e y) (kO4 o dx e Q) := rfl
def kO2 (o : O2) (x : Val) (Q : Res → Prop) : Res → Prop
  | .ok y e => wO (res e x) (kO3 o y e Q)
  | .exc c e => Q (.exc c e)
theorem kO2_ok (o : O2) (x y : Val) (e : Env) (Q : Res → Prop) : kO2 o x Q (.ok y e) = wO (res e x) (kO3 o y e Q) := rfl
theorem kO2_exc (o : O2) (x : Val) (c : Str) (e : Env) (Q : Res → Prop) : kO2 o x Q (.exc c e) = Q (.exc c e) := rfl
def kO1 (T : Fx) (o : O2) (b : E) (Q : Res → Prop) : Res → Prop
  | .ok x e1 => wE T b e1 (kO2 o x Q)
  | .exc c e => Q (.exc c e)
theorem kO1_ok (T : Fx) (o : O2) (b : E) (Q : Res → Prop) (x : Val) (e1 : Env) : kO1 T o b Q (.ok x e1) = wE T b e1 (kO2 o x Q) := rfl
theorem kO1_exc (T : Fx) (o : O2) (b : E) (Q : Res → Prop) (c : Str) (e1 : Env) : kO1 T o b Q (.exc c e1) = Q (.exc c e1) := rfl
theorem two_eq (T : Fx) (o : O2) (a b : E) (env : Env) (Q : Res → Prop) : wE T a env (kO1 T o b Q) = ∃ x, Res.o (ev T a env) = some x ∧ k1 Q (fun x e1 => ∃ y, Res.o (ev T b e1) = some y ∧ k1 Q (fun y e2 => wO (res e2 x) fun dx => wO (res e2 y) fun dy => w2 o dx dy e2 Q) y) x := by
  unfold wE
  refine congrArg _ (funext fun x => congrArg _ ?_)
  cases x with
  | exc c e => rfl
  | ok x e1 =>
    show (∃ y, Res.o (ev T b e1) = some y ∧ kO2 o x Q y) = ∃ y, Res.o (ev T b e1) = some y ∧ k1 Q _ y
    refine congrArg _ (funext fun y => congrArg _ ?_)
    cases y <;> rfl
theorem wR_bin (T : Fx) (op : Operator) (a b : E) (env : Env) (Q : Res → Prop) : wR T (.bin op a b) env Q = wE T a env (kO1 T (.bin op) b Q) := by
  rw [two_eq]
  unfold wR
  simp only [ev, bnd_eq, ofO_eq, some_ok]
  rfl
theorem wR_cmp (T : Fx) (op : CmpOp) (a b : E) (env : Env) (Q : Res → Prop) : wR T (.cmp op a b) env Q = wE T a env (kO1 T (.cmp op) b Q) := by
  rw [two_eq]
  unfold wR
  simp only [ev, bnd_eq, ofO_eq, some_ok]
  rfl
theorem wR_ix (T : Fx) (a b : E) (env : Env) (Q : Res → Prop) : wR T (.ix a b) env Q = wE T a env (kO1 T .ix b Q) := by
  rw [two_eq]
  unfold wR
  simp only [ev, bnd_eq, ofO_eq, some_ok]
  rfl
/-! ### one operand -/
inductive O1 where
  | un (op : UnaryOp) | rev | isi (ty : Ty) | fb
def w1 (o : O1) (dx : D) (e : Env) (Q : Res → Prop) : Prop := match o with
  | .un op => wO (unD op dx) (kRv e Q)
  | .rev => wO (revD dx) (kRv e Q)
  | .isi ty => wO (isiD dx ty) (kRb e Q)
  | .fb => wO (fbD dx) (kRv e Q)
theorem w1_un (op : UnaryOp) (dx : D) (e : Env) (Q : Res → Prop) : w1 (.un op) dx e Q = wO (unD op dx) (kRv e Q) := rfl
theorem w1_rev (dx : D) (e : Env) (Q : Res → Prop) : w1 .rev dx e Q = wO (revD dx) (kRv e Q) := rfl
theorem w1_isi (ty : Ty) (dx : D) (e : Env) (Q : Res → Prop) : w1 (.isi ty) dx e Q = wO (isiD dx ty) (kRb e Q) := rfl
theorem w1_fb (dx : D) (e : Env) (Q : Res → Prop) : w1 .fb dx e Q = wO (fbD dx) (kRv e Q) := rfl
def kU2 (o : O1) (e : Env) (Q : Res → Prop) (dx : D) : Prop := w1 o dx e Q
theorem kU2_eq (o : O1) (e : Env) (Q : Res → Prop) (dx : D) : kU2 o e Q dx = w1 o dx e Q := rfl
def kU1 (o : O1) (Q : Res → Prop) : Res → Prop
  | .ok x e => wO (res e x) (kU2 o e Q)
  | .exc c e => Q (.exc c e)
theorem kU1_ok (o : O1) (Q : Res → Prop) (x : Val) (e : Env) : kU1 o Q (.ok x e) = wO (res e x) (kU2 o e Q) := rfl
theorem kU1_exc (o : O1) (Q : Res → Prop) (c : Str) (e : Env) : kU1 o Q (.exc c e) = Q (.exc c e) := rfl
theorem one_eq (T : Fx) (o : O1) (a : E) (env : Env) (Q : Res → Prop) : wE T a env (kU1 o Q) = ∃ x, Res.o (ev T a env) = some x ∧ k1 Q (fun x e1 => wO (res e1 x) fun dx => w1 o dx e1 Q) x := by
  unfold wE
  refine congrArg _ (funext fun x => congrArg _ ?_)
  cases x <;> rfl
theorem wR_un (T : Fx) (op : UnaryOp) (a : E) (env : Env) (Q : Res → Prop) : wR T (.un op a) env Q = wE T a env (kU1 (.un op) Q) := by
  rw [one_eq]
  unfold wR
  simp only [ev, bnd_eq, ofO_eq, some_ok]
  rfl
theorem wR_rev (T : Fx) (a : E) (env : Env) (Q : Res → Prop) : wR T (.rev a) env Q = wE T a env (kU1 .rev Q) := by
  rw [one_eq]
  unfold wR
  simp only [ev, bnd_eq, ofO_eq, some_ok]
  rfl
theorem wR_isi (T : Fx) (a : E) (ty : Ty) (env : Env) (Q : Res → Prop) : wR T (.isi a ty) env Q = wE T a env (kU1 (.isi ty) Q) := by
  rw [one_eq]
  unfold wR
  simp only [ev, bnd_eq, ofO_eq, some_ok]
  rfl
theorem wR_fb (T : Fx) (a : E) (env : Env) (Q : Res → Prop) : wR T (.fb a) env Q = wE T a env (kU1 .fb Q) := by
  rw [one_eq]
  unfold wR
  simp only [ev, bnd_eq, ofO_eq, some_ok]
  rfl
/-! ### a < b < c -/
def kH8 (o2 : CmpOp) (dy : D) (e : Env) (Q : Res → Prop) (dz : D) : Prop := wCmp o2 dy dz (kRb e Q)
theorem kH8_eq (o2 : CmpOp) (dy : D) (e : Env) (Q : Res → Prop) (dz : D) : kH8 o2 dy e Q dz = wCmp o2 dy dz (kRb e Q) := rfl
def kH7 (o2 : CmpOp) (z : Val) (e : Env) (Q : Res → Prop) (dy : D) : Prop := wO (res e z) (kH8 o2 dy e Q)
theorem kH7_eq (o2 : CmpOp) (z : Val) (e : Env) (Q : Res → Prop) (dy : D) : kH7 o2 z e Q dy = wO (res e z) (kH8 o2 dy e Q) := rfl
def kH6 (o2 : CmpOp) (y : Val) (Q : Res → Prop) : Res → Prop
  | .ok z e => wO (res e y) (kH7 o2 z e Q)
  | .exc c e => Q (.exc c e)
theorem kH6_ok (o2 : CmpOp) (y : Val) (Q : Res → Prop) (z : Val) (e : Env) : kH6 o2 y Q (.ok z e) = wO (res e y) (kH7 o2 z e Q) := rfl
theorem kH6_exc (o2 : CmpOp) (y : Val) (Q : Res → Prop) (c : Str) (e : Env) : kH6 o2 y Q (.exc c e) = Q (.exc c e) := rfl
def kH5 (T : Fx) (o2 : CmpOp) (c : E) (y : Val) (e : Env) (Q : Res → Prop) (v : Bool) : Prop := (v = true → wE T c e (kH6 o2 y Q)) ∧ (v = false → Q (.ok (.d (.bool false)) e))
theorem kH5_eq (T : Fx) (o2 : CmpOp) (c : E) (y : Val) (e : Env) (Q : Res → Prop) (v : Bool) : kH5 T o2 c y e Q v = ((v = true → wE T c e (kH6 o2 y Q)) ∧ (v = false → Q (.ok (.d (.bool false)) e))) := rfl
def kH4 (T : Fx) (o1 o2 : CmpOp) (c : E) (y : Val) (e : Env) (dx : D) (Q : Res → Prop) (dy : D) : Prop := wCmp o1 dx dy (kH5 T o2 c y e Q)
theorem kH4_eq (T : Fx) (o1 o2 : CmpOp) (c : E) (y : Val) (e : Env) (dx : D) (Q : Res → Prop) (dy : D) : kH4 T o1 o2 c y e dx Q dy = wCmp o1 dx dy (kH5 T o2 c y e Q) := rfl
def kH3 (T : Fx) (o1 o2 : CmpOp) (c : E) (y : Val) (e : Env) (Q : Res → Prop) (dx : D) : Prop := wO (res e y) (kH4 T o1 o2 c y e dx Q)
theorem kH3_eq (T : Fx) (o1 o2 : CmpOp) (c : E) (y : Val) (e : Env) (Q : Res → Prop) (dx : D) : kH3 T o1 o2 c y e Q dx = wO (res e y) (kH4 T o1 o2 c y e dx Q) := rfl
def kH2 (T : Fx) (o1 o2 : CmpOp) (c : E) (x : Val) (Q : Res → Prop) : Res → Prop
  | .ok y e => wO (res e x) (kH3 T o1 o2 c y e Q)
  | .exc c e => Q (.exc c e)
theorem kH2_ok (T : Fx) (o1 o2 : CmpOp) (c : E) (x : Val) (Q : Res → Prop) (y : Val) (e : Env) : kH2 T o1 o2 c x Q (.ok y e) = wO (res e x) (kH3 T o1 o2 c y e Q) := rfl
theorem kH2_exc (T : Fx) (o1 o2 : CmpOp) (c : E) (x : Val) (Q : Res → Prop) (m : Str) (e : Env) : kH2 T o1 o2 c x Q (.exc m e) = Q (.exc m e) := rfl
def kH1 (T : Fx) (o1 o2 : CmpOp) (b c : E) (Q : Res → Prop) : Res → Prop
  | .ok x e => wE T b e (kH2 T o1 o2 c x Q)
  | .exc c e => Q (.exc c e)
theorem kH1_ok (T : Fx) (o1 o2 : CmpOp) (b c : E) (Q : Res → Prop) (x : Val) (e : Env) : kH1 T o1 o2 b c Q (.ok x e) = wE T b e (kH2 T o1 o2 c x Q) := rfl
theorem kH1_exc (T : Fx) (o1 o2 : CmpOp) (b c : E) (Q : Res → Prop) (m : Str) (e : Env) : kH1 T o1 o2 b c Q (.exc m e) = Q (.exc m e) := rfl
theorem wR_chn (T : Fx) (o1 o2 : CmpOp) (a b c : E) (env : Env) (Q : Res → Prop) : wR T (.chn o1 o2 a b c) env Q = wE T a env (kH1 T o1 o2 b c Q) := by
  unfold wR
  simp only [ev, bnd_eq, ofO_eq]
  have h : ∀ (v : Bool) (A B : Option Res), (∃ y, (if v = true then A else B) = some y ∧ Q y) = ((v = true → ∃ y, A = some y ∧ Q y) ∧ (v = false → ∃ y, B = some y ∧ Q y)) := fun v A B => by cases v <;> simp
  simp only [h, bnd_eq, ofO_eq, some_ok]
  unfold wE
  refine congrArg _ (funext fun x => congrArg _ ?_)
  cases x with
  | exc c e => rfl
  | ok x e1 =>
    show (∃ y, Res.o (ev T b e1) = some y ∧ k1 Q _ y) = ∃ y, Res.o (ev T b e1) = some y ∧ kH2 T o1 o2 c x Q y
    refine congrArg _ (funext fun y => congrArg _ ?_)
    cases y with
    | exc c e => rfl
    | ok y e2 =>
      have k6 : ∀ r : Res, k1 Q (fun z e3 => wO (res e3 y) fun dy => wO (res e3 z) fun dz => wO (cmpD o2 dy dz) fun a => Q (.ok (.d (.bool a)) e3)) r = kH6 o2 y Q r := fun r => by cases r <;> rfl
      show (wO (res e2 x) fun dx => wO (res e2 y) fun dy => wO (cmpD o1 dx dy) fun a => (a = true → ∃ x, Res.o (ev T c e2) = some x ∧ k1 Q (fun z e3 => wO (res e3 y) fun dy => wO (res e3 z) fun dz => wO (cmpD o2 dy dz) fun a => Q (.ok (.d (.bool a)) e3)) x) ∧ (a = false → Q (.ok (.d (.bool false)) e2))) = _
      simp only [k6]
      rfl
/-! ### and, or, not -/
def kAnd (T : Fx) (b : E) (Q : Res → Prop) : Res → Prop
  | .ok (.d (.bool v)) e1 => (v = true → wE T b e1 Q) ∧ (v = false → Q (.ok (.d (.bool false)) e1))
  | .ok _ _ => False
  | .exc c e => Q (.exc c e)
def kOr (T : Fx) (b : E) (Q : Res → Prop) : Res → Prop
  | .ok (.d (.bool v)) e1 => (v = true → Q (.ok (.d (.bool true)) e1)) ∧ (v = false → wE T b e1 Q)
  | .ok _ _ => False
  | .exc c e => Q (.exc c e)
def kNot (Q : Res → Prop) : Res → Prop
  | .ok (.d (.bool v)) e1 => Q (.ok (.d (.bool (!v))) e1)
  | .ok _ _ => False
  | .exc c e => Q (.exc c e)
theorem wR_and (T : Fx) (a b : E) (env : Env) (Q : Res → Prop) : wR T (.and a b) env Q = wE T a env (kAnd T b Q) := by
  unfold wR
  simp only [ev, bnd_eq]
  unfold wE
  refine congrArg _ (funext fun x => congrArg _ ?_)
  cases x with
  | exc c e => rfl
  | ok v e =>
    cases v with
    | d d => cases d <;> simp [kAnd, k1]; rename_i b; cases b <;> simp [wE]
    | _ => simp [kAnd, k1]
theorem wR_or (T : Fx) (a b : E) (env : Env) (Q : Res → Prop) : wR T (.or a b) env Q = wE T a env (kOr T b Q) := by
  unfold wR
  simp only [ev, bnd_eq]
  unfold wE
  refine congrArg _ (funext fun x => congrArg _ ?_)
  cases x with
  | exc c e => rfl
  | ok v e =>
    cases v with
    | d d => cases d <;> simp [kOr, k1]; rename_i b; cases b <;> simp [wE]
    | _ => simp [kOr, k1]
theorem wR_not (T : Fx) (a : E) (env : Env) (Q : Res → Prop) : wR T (.not a) env Q = wE T a env (kNot Q) := by
  unfold wR
  simp only [ev, bnd_eq]
  unfold wE
  refine congrArg _ (funext fun x => congrArg _ ?_)
  cases x with
  | exc c e => rfl
  | ok v e =>
    cases v with
    | d d => cases d <;> simp [kNot, k1]
    | _ => simp [kNot, k1]
theorem kAnd_b (T : Fx) (b : E) (Q : Res → Prop) (v : Bool) (e1 : Env) : kAnd T b Q (.ok (.d (.bool v)) e1) = ((v = true → wE T b e1 Q) ∧ (v = false → Q (.ok (.d (.bool false)) e1))) := rfl
theorem kAnd_exc (T : Fx) (b : E) (Q : Res → Prop) (c : Str) (e1 : Env) : kAnd T b Q (.exc c e1) = Q (.exc c e1) := rfl
theorem kOr_b (T : Fx) (b : E) (Q : Res → Prop) (v : Bool) (e1 : Env) : kOr T b Q (.ok (.d (.bool v)) e1) = ((v = true → Q (.ok (.d (.bool true)) e1)) ∧ (v = false → wE T b e1 Q)) := rfl
theorem kOr_exc (T : Fx) (b : E) (Q : Res → Prop) (c : Str) (e1 : Env) : kOr T b Q (.exc c e1) = Q (.exc c e1) := rfl
theorem kNot_b (Q : Res → Prop) (v : Bool) (e1 : Env) : kNot Q (.ok (.d (.bool v)) e1) = Q (.ok (.d (.bool (!v))) e1) := rfl
theorem kNot_exc (Q : Res → Prop) (c : Str) (e1 : Env) : kNot Q (.exc c e1) = Q (.exc c e1) := rfl
def kT (Q : Str → Env → Prop) (k : Bool → Env → Prop) : RsT → Prop
  | .ok b e => k b e
  | .exc c e => Q c e
theorem kT_ok (Q : Str → Env → Prop) (k : Bool → Env → Prop) (b : Bool) (e : Env) : kT Q k (.ok b e) = k b e := rfl
theorem kT_exc (Q : Str → Env → Prop) (k : Bool → Env → Prop) (c : Str) (e : Env) : kT Q k (.exc c e) = Q c e := rfl
def kIteE (T : Fx) (a b : E) (Q : Res → Prop) : RsT → Prop
  | .ok v e1 => (v = true → wR T a e1 Q) ∧ (v = false → wR T b e1 Q)
  | .exc c e => Q (.exc c e)
theorem kIteE_ok (T : Fx) (a b : E) (Q : Res → Prop) (v : Bool) (e1 : Env) : kIteE T a b Q (.ok v e1) = ((v = true → wR T a e1 Q) ∧ (v = false → wR T b e1 Q)) := rfl
theorem kIteE_exc (T : Fx) (a b : E) (Q : Res → Prop) (c : Str) (e1 : Env) : kIteE T a b Q (.exc c e1) = Q (.exc c e1) := rfl
theorem wR_ite (T : Fx) (c : Te) (a b : E) (env : Env) (Q : Res → Prop) : wR T (.ite c a b) env Q = wT T c env (kIteE T a b Q) := by
  unfold wR wT
  simp only [ev]
  cases evt T c env with
  | none => simp
  | some r =>
    cases r with
    | exc c e => simp [kIteE]
    | ok v e => cases v <;> simp [kIteE, wR]
/-! ### tests -/
def kTv (Q : RsT → Prop) : Res → Prop
  | .ok x e1 => wO (res e1 x) fun dx => wO (truD dx) fun b => Q (.ok b e1)
  | .exc c e => Q (.exc c e)
def kTb (Q : RsT → Prop) (e1 : Env) (dx : D) : Prop := wO (truD dx) fun b => Q (.ok b e1)
theorem kTv_ok (Q : RsT → Prop) (x : Val) (e1 : Env) : kTv Q (.ok x e1) = wO (res e1 x) (kTb Q e1) := rfl
theorem kTv_exc (Q : RsT → Prop) (c : Str) (e1 : Env) : kTv Q (.exc c e1) = Q (.exc c e1) := rfl
theorem kTb_b (Q : RsT → Prop) (e1 : Env) (b : Bool) : kTb Q e1 (.bool b) = Q (.ok b e1) := by simp [kTb, truD, wO]
theorem kTb_i (Q : RsT → Prop) (e1 : Env) (i : Int) : kTb Q e1 (.int i) = Q (.ok (i != 0) e1) := by simp [kTb, truD, wO]
theorem kTb_l (Q : RsT → Prop) (e1 : Env) (xs : List D) : kTb Q e1 (.list xs) = Q (.ok (!xs.isEmpty) e1) := by simp only [kTb, truD, wO_some]
theorem kTb_t (Q : RsT → Prop) (e1 : Env) (xs : List D) : kTb Q e1 (.tuple xs) = Q (.ok (!xs.isEmpty) e1) := by simp only [kTb, truD, wO_some]
theorem kTb_n (Q : RsT → Prop) (e1 : Env) : kTb Q e1 .none = Q (.ok false e1) := by simp [kTb, truD, wO]
theorem kTb_s (Q : RsT → Prop) (e1 : Env) (s : Str) : kTb Q e1 (.str s) = (s.length ≤ line ∧ Q (.ok (s.length != 0) e1)) := by
  unfold kTb truD
  by_cases h : s.length ≤ line <;> simp [h, wO]
theorem wT_val (T : Fx) (a : E) (env : Env) (Q : RsT → Prop) : wT T (.val a) env Q = wE T a env (kTv Q) := by
  unfold wT wE
  simp only [evt]
  cases Res.o (ev T a env) with
  | none => simp [RsT.of]
  | some r =>
    cases r with
    | exc c e => simp [RsT.of, kTv]
    | ok v e =>
      simp only [RsT.of, Option.some.injEq, exists_eq_left', kTv]
      cases res e v with
      | none => simp [wO]
      | some d => simp only [wO_some]; cases truD d <;> simp [wO]
def kTand (T : Fx) (b : Te) (Q : RsT → Prop) : RsT → Prop
  | .ok v e1 => (v = true → wT T b e1 Q) ∧ (v = false → Q (.ok false e1))
  | .exc c e => Q (.exc c e)
theorem kTand_ok (T : Fx) (b : Te) (Q : RsT → Prop) (v : Bool) (e1 : Env) : kTand T b Q (.ok v e1) = ((v = true → wT T b e1 Q) ∧ (v = false → Q (.ok false e1))) := rfl
theorem kTand_exc (T : Fx) (b : Te) (Q : RsT → Prop) (c : Str) (e1 : Env) : kTand T b Q (.exc c e1) = Q (.exc c e1) := rfl
def kTor (T : Fx) (b : Te) (Q : RsT → Prop) : RsT → Prop
  | .ok v e1 => (v = true → Q (.ok true e1)) ∧ (v = false → wT T b e1 Q)
  | .exc c e => Q (.exc c e)
theorem kTor_ok (T : Fx) (b : Te) (Q : RsT → Prop) (v : Bool) (e1 : Env) : kTor T b Q (.ok v e1) = ((v = true → Q (.ok true e1)) ∧ (v = false → wT T b e1 Q)) := rfl
theorem kTor_exc (T : Fx) (b : Te) (Q : RsT → Prop) (c : Str) (e1 : Env) : kTor T b Q (.exc c e1) = Q (.exc c e1) := rfl
def kTnot (Q : RsT → Prop) : RsT → Prop
  | .ok v e1 => Q (.ok (!v) e1)
  | .exc c e => Q (.exc c e)
theorem kTnot_ok (Q : RsT → Prop) (v : Bool) (e1 : Env) : kTnot Q (.ok v e1) = Q (.ok (!v) e1) := rfl
theorem kTnot_exc (Q : RsT → Prop) (c : Str) (e1 : Env) : kTnot Q (.exc c e1) = Q (.exc c e1) := rfl
theorem wT_and (T : Fx) (a b : Te) (env : Env) (Q : RsT → Prop) : wT T (.and a b) env Q = wT T a env (kTand T b Q) := by
  unfold wT
  simp only [evt]
  cases evt T a env with
  | none => simp
  | some r =>
    cases r with
    | exc c e => simp [kTand]
    | ok v e => cases v <;> simp [kTand, wT]
theorem wT_or (T : Fx) (a b : Te) (env : Env) (Q : RsT → Prop) : wT T (.or a b) env Q = wT T a env (kTor T b Q) := by
  unfold wT
  simp only [evt]
  cases evt T a env with
  | none => simp
  | some r =>
    cases r with
    | exc c e => simp [kTor]
    | ok v e => cases v <;> simp [kTor, wT]
theorem wT_not (T : Fx) (a : Te) (env : Env) (Q : RsT → Prop) : wT T (.not a) env Q = wT T a env (kTnot Q) := by
  unfold wT
  simp only [evt]
  cases evt T a env with
  | none => simp
  | some r => cases r <;> simp [kTnot]
/-! ### displays, arguments -/
def kL (Q : Res → Prop) (k : List Val → Env → Prop) : RsL → Prop
  | .ok vs e => k vs e
  | .exc c e => Q (.exc c e)
theorem kL_ok (Q : Res → Prop) (k : List Val → Env → Prop) (vs : List Val) (e : Env) : kL Q k (.ok vs e) = k vs e := rfl
theorem kL_exc (Q : Res → Prop) (k : List Val → Env → Prop) (c : Str) (e : Env) : kL Q k (.exc c e) = Q (.exc c e) := rfl
theorem wEs_nil (T : Fx) (env : Env) (Q : RsL → Prop) : wEs T .nil env Q = Q (.ok [] env) := by simp [wEs, evs]
def kEs (x : Val) (Q : RsL → Prop) : RsL → Prop
  | .ok vs e => Q (.ok (x :: vs) e)
  | .exc c e => Q (.exc c e)
theorem kEs_ok (x : Val) (Q : RsL → Prop) (vs : List Val) (e : Env) : kEs x Q (.ok vs e) = Q (.ok (x :: vs) e) := rfl
theorem kEs_exc (x : Val) (Q : RsL → Prop) (c : Str) (e : Env) : kEs x Q (.exc c e) = Q (.exc c e) := rfl
def kEc (T : Fx) (es : Es) (Q : RsL → Prop) : Res → Prop
  | .ok v e => wEs T es e (kEs v Q)
  | .exc c e => Q (.exc c e)
theorem kEc_ok (T : Fx) (es : Es) (Q : RsL → Prop) (v : Val) (e : Env) : kEc T es Q (.ok v e) = wEs T es e (kEs v Q) := rfl
theorem kEc_exc (T : Fx) (es : Es) (Q : RsL → Prop) (c : Str) (e : Env) : kEc T es Q (.exc c e) = Q (.exc c e) := rfl
theorem wEs_cons (T : Fx) (a : E) (es : Es) (env : Env) (Q : RsL → Prop) : wEs T (.cons a es) env Q = wE T a env (kEc T es Q) := by
  unfold wEs wE
  simp only [evs]
  cases Res.o (ev T a env) with
  | none => simp
  | some r =>
    cases r with
    | exc c e => simp [kEc]
    | ok v e =>
      simp only [Option.some.injEq, exists_eq_left', kEc, wEs]
      cases evs T es e with
      | none => simp
      | some r => cases r <;> simp [kEs]
def kTp2 (vs : List Val) (e e2 : Env) (Q : Res → Prop) : Prop := wO (resL e vs) fun ds => ds.length ≤ 1000 ∧ Q (.ok (.d (.tuple ds)) e2)
def kTup3 (e2 : Env) (Q : Res → Prop) (ds : List D) : Prop := ds.length ≤ 1000 ∧ Q (.ok (.d (.tuple ds)) e2)
theorem kTup3_eq (e2 : Env) (Q : Res → Prop) (ds : List D) : kTup3 e2 Q ds = (ds.length ≤ 1000 ∧ Q (.ok (.d (.tuple ds)) e2)) := rfl
def kTup2 (vs : List Val) (e : Env) (Q : Res → Prop) (e2 : Env) : Prop := wO (resL e vs) (kTup3 e2 Q)
theorem kTup2_eq (vs : List Val) (e : Env) (Q : Res → Prop) (e2 : Env) : kTup2 vs e Q e2 = wO (resL e vs) (kTup3 e2 Q) := rfl
def kTup (Q : Res → Prop) : RsL → Prop
  | .ok vs e1 => wO (frzS e1 vs) (kTup2 vs e1 Q)
  | .exc c e => Q (.exc c e)
theorem kTup_ok (Q : Res → Prop) (vs : List Val) (e1 : Env) : kTup Q (.ok vs e1) = wO (frzS e1 vs) (kTup2 vs e1 Q) := rfl
theorem kTup_exc (Q : Res → Prop) (c : Str) (e1 : Env) : kTup Q (.exc c e1) = Q (.exc c e1) := rfl
theorem wR_tup (T : Fx) (es : Es) (env : Env) (Q : Res → Prop) : wR T (.tup es) env Q = wEs T es env (kTup Q) := by
  unfold wR wEs
  simp only [ev]
  cases evs T es env with
  | none => simp
  | some r =>
    cases r with
    | exc c e => simp [kTup]
    | ok vs e =>
      simp only [Option.some.injEq, exists_eq_left', kTup, kTup2, kTup3]
      cases frzS e vs with
      | none => simp [wO]
      | some e2 =>
        simp only [wO_some, kTup2, kTup3]
        cases resL e vs with
        | none => simp [wO]
        | some ds => simp only [wO_some, kTup3]; by_cases h : ds.length ≤ 1000 <;> simp [h]
def kLst3 (e2 : Env) (Q : Res → Prop) (ds : List D) : Prop := ds.length ≤ 1000 ∧ Q (.ok (.fr (.lst ds)) e2)
theorem kLst3_eq (e2 : Env) (Q : Res → Prop) (ds : List D) : kLst3 e2 Q ds = (ds.length ≤ 1000 ∧ Q (.ok (.fr (.lst ds)) e2)) := rfl
def kLst2 (vs : List Val) (e : Env) (Q : Res → Prop) (e2 : Env) : Prop := wO (resL e vs) (kLst3 e2 Q)
theorem kLst2_eq (vs : List Val) (e : Env) (Q : Res → Prop) (e2 : Env) : kLst2 vs e Q e2 = wO (resL e vs) (kLst3 e2 Q) := rfl
def kLst (Q : Res → Prop) : RsL → Prop
  | .ok vs e1 => wO (frzS e1 vs) (kLst2 vs e1 Q)
  | .exc c e => Q (.exc c e)
theorem kLst_ok (Q : Res → Prop) (vs : List Val) (e1 : Env) : kLst Q (.ok vs e1) = wO (frzS e1 vs) (kLst2 vs e1 Q) := rfl
theorem kLst_exc (Q : Res → Prop) (c : Str) (e1 : Env) : kLst Q (.exc c e1) = Q (.exc c e1) := rfl
theorem wR_lst (T : Fx) (es : Es) (env : Env) (Q : Res → Prop) : wR T (.lst es) env Q = wEs T es env (kLst Q) := by
  unfold wR wEs
  simp only [ev]
  cases evs T es env with
  | none => simp
  | some r =>
    cases r with
    | exc c e => simp [kLst]
    | ok vs e =>
      simp only [Option.some.injEq, exists_eq_left', kLst, kLst2, kLst3]
      cases frzS e vs with
      | none => simp [wO]
      | some e2 =>
        simp only [wO_some, kLst2, kLst3]
        cases resL e vs with
        | none => simp [wO]
        | some ds => simp only [wO_some, kLst3]; by_cases h : ds.length ≤ 1000 <;> simp [h]
def kBi2 (f : Bi) (e : Env) (Q : Res → Prop) (ds : List D) : Prop := wO (biD f ds) (kRv e Q)
theorem kBi2_eq (f : Bi) (e : Env) (Q : Res → Prop) (ds : List D) : kBi2 f e Q ds = wO (biD f ds) (kRv e Q) := rfl
def kBi (f : Bi) (Q : Res → Prop) : RsL → Prop
  | .ok vs e1 => wO (resL e1 vs) (kBi2 f e1 Q)
  | .exc c e => Q (.exc c e)
theorem kBi_ok (f : Bi) (Q : Res → Prop) (vs : List Val) (e1 : Env) : kBi f Q (.ok vs e1) = wO (resL e1 vs) (kBi2 f e1 Q) := rfl
theorem kBi_exc (f : Bi) (Q : Res → Prop) (c : Str) (e1 : Env) : kBi f Q (.exc c e1) = Q (.exc c e1) := rfl
theorem wR_bi (T : Fx) (f : Bi) (es : Es) (env : Env) (Q : Res → Prop) : wR T (.bi f es) env Q = wEs T es env (kBi f Q) := by
  unfold wR wEs
  simp only [ev]
  cases evs T es env with
  | none => simp
  | some r =>
    cases r with
    | exc c e => simp [kBi]
    | ok vs e =>
      simp only [Option.some.injEq, exists_eq_left', kBi, ofO_eq, some_ok]
      rfl
def kBm3 (m : Bm) (dx : D) (e : Env) (Q : Res → Prop) (ds : List D) : Prop := wO (bmD m dx ds) (kRv e Q)
theorem kBm3_eq (m : Bm) (dx : D) (e : Env) (Q : Res → Prop) (ds : List D) : kBm3 m dx e Q ds = wO (bmD m dx ds) (kRv e Q) := rfl
def kBm2 (m : Bm) (dx : D) (Q : Res → Prop) : RsL → Prop
  | .ok vs e1 => wO (resL e1 vs) (kBm3 m dx e1 Q)
  | .exc c e => Q (.exc c e)
theorem kBm2_ok (m : Bm) (dx : D) (Q : Res → Prop) (vs : List Val) (e1 : Env) : kBm2 m dx Q (.ok vs e1) = wO (resL e1 vs) (kBm3 m dx e1 Q) := rfl
theorem kBm2_exc (m : Bm) (dx : D) (Q : Res → Prop) (c : Str) (e1 : Env) : kBm2 m dx Q (.exc c e1) = Q (.exc c e1) := rfl
def kBm1 (T : Fx) (m : Bm) (es : Es) (e0 : Env) (Q : Res → Prop) (dx : D) : Prop := bmT m dx = true ∧ wEs T es e0 (kBm2 m dx Q)
theorem kBm1_eq (T : Fx) (m : Bm) (es : Es) (e0 : Env) (Q : Res → Prop) (dx : D) : kBm1 T m es e0 Q dx = (bmT m dx = true ∧ wEs T es e0 (kBm2 m dx Q)) := rfl
def kBm (T : Fx) (m : Bm) (es : Es) (Q : Res → Prop) : Res → Prop
  | .ok x e0 => wO (res e0 x) (kBm1 T m es e0 Q)
  | .exc c e => Q (.exc c e)
theorem kBm_ok (T : Fx) (m : Bm) (es : Es) (Q : Res → Prop) (x : Val) (e0 : Env) : kBm T m es Q (.ok x e0) = wO (res e0 x) (kBm1 T m es e0 Q) := rfl
theorem kBm_exc (T : Fx) (m : Bm) (es : Es) (Q : Res → Prop) (c : Str) (e0 : Env) : kBm T m es Q (.exc c e0) = Q (.exc c e0) := rfl
theorem wR_bm (T : Fx) (m : Bm) (a : E) (es : Es) (env : Env) (Q : Res → Prop) : wR T (.bm m a es) env Q = wE T a env (kBm T m es Q) := by
  unfold wR
  simp only [ev, bnd_eq, ofO_eq]
  unfold wE
  refine congrArg _ (funext fun x => congrArg _ ?_)
  cases x with
  | exc c e => rfl
  | ok v e =>
    show wO (res e v) _ = wO (res e v) _
    refine congrArg _ (funext fun dx => ?_)
    unfold kBm1
    cases h : bmT m dx with
    | false => simp
    | true =>
      simp only [if_true, true_and, wEs]
      cases evs T es e with
      | none => simp
      | some r =>
        cases r with
        | exc c e => simp [kBm2]
        | ok vs e =>
          simp only [Option.some.injEq, exists_eq_left', kBm2, ofO_eq, some_ok]
          rfl
def kMm4 (i : Nat) (e2 : Env) (Q : Res → Prop) (p : D × List D) : Prop := Q (.ok (.d p.1) (e2.set i (some (.lst p.2))))
theorem kMm4_eq (i : Nat) (e2 : Env) (Q : Res → Prop) (d : D) (xs : List D) : kMm4 i e2 Q (d, xs) = Q (.ok (.d d) (e2.set i (some (.lst xs)))) := rfl
def kMm3 (m : Mm) (i : Nat) (ds : List D) (e2 : Env) (Q : Res → Prop) : Option (Option Cell) → Prop
  | some (some (.lst xs)) => wO (mmD m xs ds) (kMm4 i e2 Q)
  | _ => False
theorem kMm3_lst (m : Mm) (i : Nat) (ds : List D) (e2 : Env) (Q : Res → Prop) (xs : List D) : kMm3 m i ds e2 Q (some (some (.lst xs))) = wO (mmD m xs ds) (kMm4 i e2 Q) := rfl
def kMm2 (m : Mm) (i : Nat) (e2 : Env) (Q : Res → Prop) (ds : List D) : Prop := kMm3 m i ds e2 Q e2[i]?
theorem kMm2_eq (m : Mm) (i : Nat) (e2 : Env) (Q : Res → Prop) (ds : List D) : kMm2 m i e2 Q ds = kMm3 m i ds e2 Q e2[i]? := rfl
def kMm1 (m : Mm) (i : Nat) (vs : List Val) (e1 : Env) (Q : Res → Prop) (e2 : Env) : Prop := wO (resL e1 vs) (kMm2 m i e2 Q)
theorem kMm1_eq (m : Mm) (i : Nat) (vs : List Val) (e1 : Env) (Q : Res → Prop) (e2 : Env) : kMm1 m i vs e1 Q e2 = wO (resL e1 vs) (kMm2 m i e2 Q) := rfl
def kMm (m : Mm) (i : Nat) (Q : Res → Prop) : RsL → Prop
  | .ok vs e1 => wO (frzS e1 vs) (kMm1 m i vs e1 Q)
  | .exc c e => Q (.exc c e)
theorem kMm_ok (m : Mm) (i : Nat) (Q : Res → Prop) (vs : List Val) (e1 : Env) : kMm m i Q (.ok vs e1) = wO (frzS e1 vs) (kMm1 m i vs e1 Q) := rfl
theorem kMm_exc (m : Mm) (i : Nat) (Q : Res → Prop) (c : Str) (e1 : Env) : kMm m i Q (.exc c e1) = Q (.exc c e1) := rfl
theorem wR_mm (T : Fx) (m : Mm) (i : Nat) (es : Es) (env : Env) (Q : Res → Prop) : wR T (.mm m i es) env Q = (isLst (env[i]?.getD none) = true ∧ wEs T es env (kMm m i Q)) := by
  unfold wR
  simp only [ev]
  cases h : isLst (env[i]?.getD none) with
  | false => simp
  | true =>
    simp only [if_true, true_and, wEs]
    cases evs T es env with
    | none => simp
    | some r =>
      cases r with
      | exc c e => simp [kMm]
      | ok vs e =>
        simp only [Option.some.injEq, exists_eq_left', kMm]
        cases frzS e vs with
        | none => simp [wO]
        | some e2 =>
          simp only [wO_some, kMm1]
          cases resL e vs with
          | none => simp [wO]
          | some ds =>
            simp only [wO_some, kMm2]
            cases h2 : e2[i]? with
            | none => simp [kMm3]
            | some o =>
              cases o with
              | none => simp [kMm3]
              | some c =>
                cases c <;> simp [kMm3]
                rename_i xs
                cases h3 : mmD m xs ds with
                | none => simp [wO]
                | some p => simp [wO, kMm4]
def wSl (T : Fx) (o : Ox) (env : Env) (k : Option Int → Env → Prop) : Prop := wO (evx T o env) fun p => k p.1 p.2
def kSl4 (l h : Option Int) (e3 : Env) (Q : Res → Prop) (dx : D) : Prop := wO (slD dx l h) (kRv e3 Q)
theorem kSl4_eq (l h : Option Int) (e3 : Env) (Q : Res → Prop) (dx : D) : kSl4 l h e3 Q dx = wO (slD dx l h) (kRv e3 Q) := rfl
def kSl3 (x : Val) (l : Option Int) (Q : Res → Prop) (h : Option Int) (e3 : Env) : Prop := wO (res e3 x) (kSl4 l h e3 Q)
theorem kSl3_eq (x : Val) (l : Option Int) (Q : Res → Prop) (h : Option Int) (e3 : Env) : kSl3 x l Q h e3 = wO (res e3 x) (kSl4 l h e3 Q) := rfl
def kSl2 (T : Fx) (hi : Ox) (x : Val) (Q : Res → Prop) (l : Option Int) (e2 : Env) : Prop := wSl T hi e2 (kSl3 x l Q)
theorem kSl2_eq (T : Fx) (hi : Ox) (x : Val) (Q : Res → Prop) (l : Option Int) (e2 : Env) : kSl2 T hi x Q l e2 = wSl T hi e2 (kSl3 x l Q) := rfl
def kSl1 (T : Fx) (lo hi : Ox) (Q : Res → Prop) : Res → Prop
  | .ok x e1 => wSl T lo e1 (kSl2 T hi x Q)
  | .exc c e => Q (.exc c e)
theorem kSl1_ok (T : Fx) (lo hi : Ox) (Q : Res → Prop) (x : Val) (e1 : Env) : kSl1 T lo hi Q (.ok x e1) = wSl T lo e1 (kSl2 T hi x Q) := rfl
theorem kSl1_exc (T : Fx) (lo hi : Ox) (Q : Res → Prop) (c : Str) (e1 : Env) : kSl1 T lo hi Q (.exc c e1) = Q (.exc c e1) := rfl
theorem wR_sl (T : Fx) (a : E) (lo hi : Ox) (env : Env) (Q : Res → Prop) : wR T (.sl a lo hi) env Q = wE T a env (kSl1 T lo hi Q) := by
  unfold wR
  simp only [ev, bnd_eq]
  unfold wE
  refine congrArg _ (funext fun x => congrArg _ ?_)
  cases x with
  | exc c e => rfl
  | ok v e =>
    simp only [k1, kSl1, wSl]
    cases evx T lo e with
    | none => simp [wO]
    | some p =>
      obtain ⟨l, e2⟩ := p
      simp only [wO_some, kSl2, wSl]
      cases evx T hi e2 with
      | none => simp [wO]
      | some p => obtain ⟨h, e3⟩ := p; simp only [wO_some, ofO_eq, some_ok]; rfl
theorem wSl_non (T : Fx) (env : Env) (k : Option Int → Env → Prop) : wSl T .non env k = k none env := by simp [wSl, evx, wO]
def kSl (k : Option Int → Env → Prop) : Res → Prop
  | .ok (.d (.int i)) e => k (some i) e
  | _ => False
theorem kSl_i (k : Option Int → Env → Prop) (i : Int) (e : Env) : kSl k (.ok (.d (.int i)) e) = k (some i) e := rfl
theorem wSl_some (T : Fx) (a : E) (env : Env) (k : Option Int → Env → Prop) : wSl T (.some a) env k = wE T a env (kSl k) := by
  unfold wSl wE
  simp only [evx]
  cases Res.o (ev T a env) with
  | none => simp [wO]
  | some r =>
    cases r with
    | exc c e => simp [wO, kSl]
    | ok v e => cases v with
      | d d => cases d <;> simp [wO, kSl]
      | _ => simp [wO, kSl]
theorem wR_dic0 (T : Fx) (env : Env) (Q : Res → Prop) : wR T .dic0 env Q = Q (.ok (.fr (.dic [])) env) := by simp [wR, ev]
def kIsx (T : Fx) (c : Str) (env : Env) (Q : Res → Prop) : Option (Option Cell) → Prop
  | some (some (.exc x)) => wO (T.sub x c) fun b => Q (.ok (.d (.bool b)) env)
  | _ => False
theorem kIsx_e (T : Fx) (c : Str) (env : Env) (Q : Res → Prop) (x : Str) : kIsx T c env Q (some (some (.exc x))) = wO (T.sub x c) fun b => Q (.ok (.d (.bool b)) env) := rfl
theorem wR_isx (T : Fx) (i : Nat) (c : Str) (env : Env) (Q : Res → Prop) : wR T (.isx i c) env Q = kIsx T c env Q env[i]? := by
  unfold wR
  simp only [ev]
  cases env[i]? with
  | none => simp [kIsx]
  | some o =>
    cases o with
    | none => simp [kIsx]
    | some z =>
      cases z <;> simp [kIsx]
      rename_i x
      cases h : T.sub x c with
      | none => simp [wO]
      | some b => cases b <;> simp [wO]
/-! ### calls -/
theorem wR_call (T : Fx) (f : Str) (es : Es) (env : Env) (Q : Res → Prop) (fn : Fn) (h : T.fns f = some fn) : wR T (.call f es) env Q = wEs T es env (fun r => match r with
    | .ok vs e => wO (callF fn vs e) Q
    | .exc c e => Q (.exc c e)) := by
  unfold wR
  simp only [ev, h, wEs]
  cases evs T es env with
  | none => simp
  | some r =>
    cases r with
    | exc c e => simp
    | ok vs e => simp only [Option.some.injEq, exists_eq_left']; rfl
/-! ### comprehensions -/
def wComp (T : Fx) (elt : E) (i : Nat) (cnd : Te) (ds : List D) (e : Env) (acc : List D) (K : List D → Env → Prop) : Prop := ∃ xs e2, compL (evt T cnd) (fun e => Res.o (ev T elt e)) i ds e acc = some (.ok (.fr (.lst xs)) e2) ∧ K xs e2
theorem compL_fr {t : Env → Option RsT} {f : Env → Option Res} {i : Nat} : ∀ {ds : List D} {e : Env} {acc : List D} {r : Res}, compL t f i ds e acc = some r → ∃ xs e2, r = .ok (.fr (.lst xs)) e2
  | [], e, acc, r, h => by simp [compL] at h; exact ⟨acc, e, h.symm⟩
  | x :: ds, e, acc, r, h => by
    simp only [compL] at h
    split at h
    · split at h
      · split at h
        · exact compL_fr h
        · cases h
      · cases h
    · exact compL_fr h
    · cases h
def kI (Q : Str → Env → Prop) (k : List D → Env → Prop) : RsI → Prop
  | .ok ds e => k ds e
  | .exc c e => Q c e
theorem kI_ok (Q : Str → Env → Prop) (k : List D → Env → Prop) (ds : List D) (e : Env) : kI Q k (.ok ds e) = k ds e := rfl
theorem kI_exc (Q : Str → Env → Prop) (k : List D → Env → Prop) (c : Str) (e : Env) : kI Q k (.exc c e) = Q c e := rfl
def kCmp (i : Nat) (o : Option Cell) (Q : Res → Prop) (xs : List D) (e2 : Env) : Prop := Q (.ok (.fr (.lst xs)) (e2.set i (back o)))
theorem kCmp_eq (i : Nat) (o : Option Cell) (Q : Res → Prop) (xs : List D) (e2 : Env) : kCmp i o Q xs e2 = Q (.ok (.fr (.lst xs)) (e2.set i (back o))) := rfl
def kCi (T : Fx) (elt : E) (i : Nat) (cnd : Te) (Q : Res → Prop) : RsI → Prop
  | .ok ds e1 => wComp T elt i cnd ds (e1.set i none) [] (kCmp i (e1[i]?.getD none) Q)
  | .exc c e => Q (.exc c e)
theorem kCi_ok (T : Fx) (elt : E) (i : Nat) (cnd : Te) (Q : Res → Prop) (ds : List D) (e1 : Env) : kCi T elt i cnd Q (.ok ds e1) = wComp T elt i cnd ds (e1.set i none) [] (kCmp i (e1[i]?.getD none) Q) := rfl
theorem kCi_exc (T : Fx) (elt : E) (i : Nat) (cnd : Te) (Q : Res → Prop) (c : Str) (e1 : Env) : kCi T elt i cnd Q (.exc c e1) = Q (.exc c e1) := rfl
theorem wR_comp (T : Fx) (elt : E) (i : Nat) (it : It) (cnd : Te) (env : Env) (Q : Res → Prop) : wR T (.comp elt i it cnd) env Q = (okS T i = true ∧ wI T it env (kCi T elt i cnd Q)) := by
  unfold wR
  simp only [ev]
  cases h : okS T i with
  | false => simp
  | true =>
    simp only [if_true, true_and, wI]
    cases evi T it env with
    | none => simp
    | some r =>
      cases r with
      | exc c e => simp [kCi]
      | ok ds e =>
        simp only [Option.some.injEq, exists_eq_left', kCi, wComp, kCmp]
        cases h2 : compL (evt T cnd) (fun e => Res.o (ev T elt e)) i ds (e.set i none) [] with
        | none => simp
        | some r =>
          obtain ⟨xs, e2, rfl⟩ := compL_fr h2
          simp only [Option.some.injEq, Res.ok.injEq, Val.fr.injEq, Cell.lst.injEq, exists_eq_left']
          exact propext ⟨fun q => ⟨xs, e2, ⟨rfl, rfl⟩, q⟩, fun ⟨_, _, ⟨h1, h2⟩, q⟩ => by subst h1; subst h2; exact q⟩
/-! ### what loops go over -/
def kIs (Q : RsI → Prop) : Res → Prop
  | .ok v e => wO (frzS e [v]) fun e2 => wO (res e v) fun d => (match d with
    | .list ds => Q (.ok ds e2)
    | .tuple ds => Q (.ok ds e2)
    | .str s => Q (.ok (s.cps.toList.map fun c => .str ⟨#[c]⟩) e2)
    | _ => False)
  | .exc c e => Q (.exc c e)
theorem kIs_ok (Q : RsI → Prop) (v : Val) (e : Env) : kIs Q (.ok v e) = wO (frzS e [v]) fun e2 => wO (res e v) fun d => (match d with
    | .list ds => Q (.ok ds e2)
    | .tuple ds => Q (.ok ds e2)
    | .str s => Q (.ok (s.cps.toList.map fun c => .str ⟨#[c]⟩) e2)
    | _ => False) := rfl
theorem kIs_exc (Q : RsI → Prop) (c : Str) (e : Env) : kIs Q (.exc c e) = Q (.exc c e) := rfl
theorem wI_seq (T : Fx) (a : E) (env : Env) (Q : RsI → Prop) : wI T (.seq a) env Q = wE T a env (kIs Q) := by
  unfold wI wE
  simp only [evi]
  cases Res.o (ev T a env) with
  | none => simp
  | some r =>
    cases r with
    | exc c e => simp [kIs]
    | ok v e =>
      simp only [Option.some.injEq, exists_eq_left', kIs]
      cases frzS e [v] with
      | none => simp [wO]
      | some e2 =>
        simp only [wO_some]
        cases res e v with
        | none => simp [wO]
        | some d => cases d <;> simp [wO]
def rngL (a n : Int) : List D := (List.range (n - a).toNat).map fun (k : Nat) => PyData.int (a + (k : Int))
def kRg (Q : RsI → Prop) : RsL → Prop
  | .ok [.d (.int n)] e => (-1000000 ≤ n ∧ n ≤ 1000000) ∧ Q (.ok (rngL 0 n) e)
  | .ok [.d (.int a), .d (.int n)] e => (-1000000 ≤ a ∧ a ≤ 1000000 ∧ -1000000 ≤ n ∧ n ≤ 1000000) ∧ Q (.ok (rngL a n) e)
  | _ => False
theorem kRg_1 (Q : RsI → Prop) (n : Int) (e : Env) : kRg Q (.ok [.d (.int n)] e) = ((-1000000 ≤ n ∧ n ≤ 1000000) ∧ Q (.ok (rngL 0 n) e)) := rfl
theorem kRg_2 (Q : RsI → Prop) (a n : Int) (e : Env) : kRg Q (.ok [.d (.int a), .d (.int n)] e) = ((-1000000 ≤ a ∧ a ≤ 1000000 ∧ -1000000 ≤ n ∧ n ≤ 1000000) ∧ Q (.ok (rngL a n) e)) := rfl
theorem wI_rng_of {T : Fx} {es : Es} {env : Env} {Q : RsI → Prop} (h : wEs T es env (kRg Q)) : wI T (.rng es) env Q := by
  obtain ⟨r, h1, h2⟩ := h
  unfold kRg at h2
  split at h2
  · refine ⟨_, ?_, h2.2⟩
    simp only [evi, h1, h2.1, and_self, decide_true, if_true, rngL, Int.sub_zero]
  · obtain ⟨⟨q1, q2, q3, q4⟩, h3⟩ := h2
    refine ⟨_, ?_, h3⟩
    simp only [evi, h1, q1, q2, q3, q4, and_self, decide_true, if_true, rngL]
  · exact h2.elim
theorem wI_rng (T : Fx) (es : Es) (env : Env) (Q : RsI → Prop) : wI T (.rng es) env Q = wEs T es env (kRg Q) := by
  refine propext ⟨fun h => ?_, wI_rng_of⟩
  obtain ⟨r, h1, h2⟩ := h
  simp only [evi] at h1
  split at h1
  · rename_i n e q
    split at h1
    · rename_i z
      cases h1
      refine ⟨_, q, ?_⟩
      rw [kRg_1]
      refine ⟨of_decide_eq_true z, ?_⟩
      simpa [rngL] using h2
    · cases h1
  · rename_i a n e q
    split at h1
    · rename_i z
      cases h1
      refine ⟨_, q, ?_⟩
      rw [kRg_2]
      exact ⟨of_decide_eq_true z, h2⟩
    · cases h1
  · cases h1
/-! ### statements -/
def kSeq (T : Fx) (n : Nat) (b : S) (Q : Out → Prop) : Out → Prop
  | .nx e => wS T n b e Q
  | o => Q o
theorem wS_seq (T : Fx) (n : Nat) (a b : S) (env : Env) (Q : Out → Prop) : wS T n (.seq a b) env Q = wS T n a env (kSeq T n b Q) := by
  unfold wS
  simp only [ex]
  cases ex T n a env with
  | none => simp
  | some o => cases o <;> simp [kSeq, wS]
theorem kSeq_nx (T : Fx) (n : Nat) (b : S) (Q : Out → Prop) (e : Env) : kSeq T n b Q (.nx e) = wS T n b e Q := rfl
theorem kSeq_rt (T : Fx) (n : Nat) (b : S) (Q : Out → Prop) (v : Val) (e : Env) : kSeq T n b Q (.rt v e) = Q (.rt v e) := rfl
theorem kSeq_exc (T : Fx) (n : Nat) (b : S) (Q : Out → Prop) (v : Str) (e : Env) : kSeq T n b Q (.exc v e) = Q (.exc v e) := rfl
theorem kSeq_bk (T : Fx) (n : Nat) (b : S) (Q : Out → Prop) (e : Env) : kSeq T n b Q (.bk e) = Q (.bk e) := rfl
theorem kSeq_ct (T : Fx) (n : Nat) (b : S) (Q : Out → Prop) (e : Env) : kSeq T n b Q (.ct e) = Q (.ct e) := rfl
theorem wS_pass (T : Fx) (n : Nat) (env : Env) (Q : Out → Prop) : wS T n .pass env Q = Q (.nx env) := by simp [wS, ex]
theorem wS_brk (T : Fx) (n : Nat) (env : Env) (Q : Out → Prop) : wS T n .brk env Q = Q (.bk env) := by simp [wS, ex]
theorem wS_cnt (T : Fx) (n : Nat) (env : Env) (Q : Out → Prop) : wS T n .cnt env Q = Q (.ct env) := by simp [wS, ex]
theorem wS_retN (T : Fx) (n : Nat) (env : Env) (Q : Out → Prop) : wS T n .retN env Q = Q (.rt (.d .none) env) := by simp [wS, ex]
theorem wS_raise (T : Fx) (n : Nat) (c : Str) (env : Env) (Q : Out → Prop) : wS T n (.raise c) env Q = Q (.exc c env) := by simp [wS, ex]
def kEx (Q : Out → Prop) : Res → Prop
  | .ok _ e => Q (.nx e)
  | .exc c e => Q (.exc c e)
theorem kEx_ok (Q : Out → Prop) (v : Val) (e : Env) : kEx Q (.ok v e) = Q (.nx e) := rfl
theorem kEx_exc (Q : Out → Prop) (c : Str) (e : Env) : kEx Q (.exc c e) = Q (.exc c e) := rfl
theorem wS_expr (T : Fx) (n : Nat) (a : E) (env : Env) (Q : Out → Prop) : wS T n (.expr a) env Q = wR T a env (kEx Q) := by
  unfold wS wR
  simp only [ex]
  cases ev T a env with
  | none => simp
  | some r => cases r <;> simp [kEx]
def kRet (Q : Out → Prop) : Res → Prop
  | .ok v e => Q (.rt v e)
  | .exc c e => Q (.exc c e)
theorem kRet_ok (Q : Out → Prop) (v : Val) (e : Env) : kRet Q (.ok v e) = Q (.rt v e) := rfl
theorem kRet_exc (Q : Out → Prop) (c : Str) (e : Env) : kRet Q (.exc c e) = Q (.exc c e) := rfl
theorem wS_ret (T : Fx) (n : Nat) (a : E) (env : Env) (Q : Out → Prop) : wS T n (.ret a) env Q = wR T a env (kRet Q) := by
  unfold wS wR
  simp only [ex]
  cases ev T a env with
  | none => simp
  | some r => cases r <;> simp [kRet]
def kSet (T : Fx) (i : Nat) (Q : Out → Prop) : Res → Prop
  | .ok (.d d) e => okS T i = true ∧ Q (.nx (e.set i (some (.val d))))
  | .ok (.fr c) e => okS T i = true ∧ Q (.nx (e.set i (some c)))
  | .ok (.sl j) e => wO (frzS e [.sl j]) fun e2 => wO (res e (.sl j)) fun d => okS T i = true ∧ Q (.nx (e2.set i (some (.val d))))
  | .exc c e => Q (.exc c e)
theorem kSet_d (T : Fx) (i : Nat) (Q : Out → Prop) (d : D) (e : Env) : kSet T i Q (.ok (.d d) e) = (okS T i = true ∧ Q (.nx (e.set i (some (.val d))))) := rfl
theorem kSet_fr (T : Fx) (i : Nat) (Q : Out → Prop) (c : Cell) (e : Env) : kSet T i Q (.ok (.fr c) e) = (okS T i = true ∧ Q (.nx (e.set i (some c)))) := rfl
theorem kSet_sl (T : Fx) (i j : Nat) (Q : Out → Prop) (e : Env) : kSet T i Q (.ok (.sl j) e) = wO (frzS e [.sl j]) fun e2 => wO (res e (.sl j)) fun d => okS T i = true ∧ Q (.nx (e2.set i (some (.val d)))) := rfl
theorem kSet_exc (T : Fx) (i : Nat) (Q : Out → Prop) (c : Str) (e : Env) : kSet T i Q (.exc c e) = Q (.exc c e) := rfl
theorem wS_set (T : Fx) (n i : Nat) (a : E) (env : Env) (Q : Out → Prop) : wS T n (.set i a) env Q = wR T a env (kSet T i Q) := by
  unfold wS wR
  simp only [ex]
  cases ev T a env with
  | none => simp
  | some r =>
    cases r with
    | exc c e => simp [kSet]
    | ok v e =>
      simp only [Option.some.injEq, exists_eq_left']
      cases v with
      | d d => cases h : okS T i <;> simp [kSet, h]
      | fr c => cases h : okS T i <;> simp [kSet, h]
      | sl j =>
        simp only [kSet]
        cases frzS e [.sl j] with
        | none => simp [wO]
        | some e2 =>
          simp only [wO_some]
          cases res e (.sl j) with
          | none => simp [wO]
          | some d => cases h : okS T i <;> simp [wO]
def kUnp (T : Fx) (is : List Nat) (Q : Out → Prop) : Res → Prop
  | .ok v e => wO (frzS e [v]) fun e2 => wO (res e v) fun d => (match d with
    | .tuple ds => ds.length = is.length ∧ wO (bindL T is ds e2) fun e3 => Q (.nx e3)
    | _ => False)
  | .exc c e => Q (.exc c e)
theorem kUnp_ok (T : Fx) (is : List Nat) (Q : Out → Prop) (v : Val) (e : Env) : kUnp T is Q (.ok v e) = wO (frzS e [v]) fun e2 => wO (res e v) fun d => (match d with
    | .tuple ds => ds.length = is.length ∧ wO (bindL T is ds e2) fun e3 => Q (.nx e3)
    | _ => False) := rfl
theorem kUnp_exc (T : Fx) (is : List Nat) (Q : Out → Prop) (c : Str) (e : Env) : kUnp T is Q (.exc c e) = Q (.exc c e) := rfl
theorem wS_unp (T : Fx) (n : Nat) (is : List Nat) (a : E) (env : Env) (Q : Out → Prop) : wS T n (.unp is a) env Q = wE T a env (kUnp T is Q) := by
  unfold wS wE
  simp only [ex]
  cases Res.o (ev T a env) with
  | none => simp
  | some r =>
    cases r with
    | exc c e => simp [kUnp]
    | ok v e =>
      simp only [Option.some.injEq, exists_eq_left', kUnp]
      cases frzS e [v] with
      | none => simp [wO]
      | some e2 =>
        simp only [wO_some]
        cases res e v with
        | none => simp [wO]
        | some d =>
          cases d <;> simp [wO]
          rename_i ds
          by_cases h : ds.length = is.length
          · simp only [h, if_true, true_and]
            cases bindL T is ds e2 <;> simp
          · simp [h]
def kAug (T : Fx) (i : Nat) (op : Operator) (x : D) (Q : Out → Prop) : Res → Prop
  | .ok v e => wO (res e v) fun y => wBin op x y fun z => (match z with
    | .d z => (scalD z = true ∧ okS T i = true) ∧ Q (.nx (e.set i (some (.val z))))
    | _ => False)
  | .exc c e => Q (.exc c e)
theorem kAug_ok (T : Fx) (i : Nat) (op : Operator) (x : D) (Q : Out → Prop) (v : Val) (e : Env) : kAug T i op x Q (.ok v e) = wO (res e v) fun y => wBin op x y fun z => (match z with
    | .d z => (scalD z = true ∧ okS T i = true) ∧ Q (.nx (e.set i (some (.val z))))
    | _ => False) := rfl
theorem kAug_exc (T : Fx) (i : Nat) (op : Operator) (x : D) (Q : Out → Prop) (c : Str) (e : Env) : kAug T i op x Q (.exc c e) = Q (.exc c e) := rfl
def kAugV (T : Fx) (i : Nat) (op : Operator) (a : E) (env : Env) (Q : Out → Prop) : Option (Option Cell) → Prop
  | some (some (.val x)) => wE T a env (kAug T i op x Q)
  | _ => False
theorem kAugV_val (T : Fx) (i : Nat) (op : Operator) (a : E) (env : Env) (Q : Out → Prop) (x : D) : kAugV T i op a env Q (some (some (.val x))) = wE T a env (kAug T i op x Q) := rfl
theorem wS_aug (T : Fx) (n i : Nat) (op : Operator) (a : E) (env : Env) (Q : Out → Prop) : wS T n (.aug i op a) env Q = kAugV T i op a env Q env[i]? := by
  unfold wS
  simp only [ex]
  cases h : env[i]? with
  | none => simp [kAugV]
  | some o =>
    cases o with
    | none => simp [kAugV]
    | some c =>
      cases c <;> simp [kAugV, wE]
      rename_i x
      cases Res.o (ev T a env) with
      | none => simp
      | some r =>
        cases r with
        | exc c e => simp [kAug]
        | ok v e =>
          simp only [Option.some.injEq, exists_eq_left', kAug]
          cases res e v with
          | none => simp [wO]
          | some y =>
            simp only [wO_some, wBin]
            cases binD op x y with
            | none => simp [wO]
            | some z =>
              simp only [wO_some]
              cases z <;> simp
              rename_i z
              by_cases q : scalD z = true ∧ okS T i = true <;> simp [q]
def kIte (T : Fx) (n : Nat) (a b : S) (Q : Out → Prop) : RsT → Prop
  | .ok v e1 => (v = true → wS T n a e1 Q) ∧ (v = false → wS T n b e1 Q)
  | .exc c e => Q (.exc c e)
theorem kIte_ok (T : Fx) (n : Nat) (a b : S) (Q : Out → Prop) (v : Bool) (e1 : Env) : kIte T n a b Q (.ok v e1) = ((v = true → wS T n a e1 Q) ∧ (v = false → wS T n b e1 Q)) := rfl
theorem kIte_exc (T : Fx) (n : Nat) (a b : S) (Q : Out → Prop) (c : Str) (e1 : Env) : kIte T n a b Q (.exc c e1) = Q (.exc c e1) := rfl
theorem wS_ite (T : Fx) (n : Nat) (c : Te) (a b : S) (env : Env) (Q : Out → Prop) : wS T n (.ite c a b) env Q = wT T c env (kIte T n a b Q) := by
  unfold wS wT
  simp only [ex]
  cases evt T c env with
  | none => simp
  | some r =>
    cases r with
    | exc c e => simp [kIte]
    | ok v e => cases v <;> simp [kIte, wS]
def wFor (T : Fx) (n : Nat) (t : Tg) (b : S) (ds : List D) (e : Env) (Q : Out → Prop) : Prop := wO (forL T t (ex T n b) ds e) Q
def kFor (T : Fx) (n : Nat) (t : Tg) (b : S) (Q : Out → Prop) : RsI → Prop
  | .ok ds e1 => wFor T n t b ds e1 Q
  | .exc c e => Q (.exc c e)
theorem kFor_ok (T : Fx) (n : Nat) (t : Tg) (b : S) (Q : Out → Prop) (ds : List D) (e1 : Env) : kFor T n t b Q (.ok ds e1) = wFor T n t b ds e1 Q := rfl
theorem kFor_exc (T : Fx) (n : Nat) (t : Tg) (b : S) (Q : Out → Prop) (c : Str) (e1 : Env) : kFor T n t b Q (.exc c e1) = Q (.exc c e1) := rfl
theorem wS_for (T : Fx) (n : Nat) (t : Tg) (it : It) (b : S) (env : Env) (Q : Out → Prop) : wS T n (.for_ t it b) env Q = wI T it env (kFor T n t b Q) := by
  unfold wS wI
  simp only [ex]
  cases evi T it env with
  | none => simp
  | some r =>
    cases r with
    | exc c e => simp [kFor]
    | ok ds e => simp [kFor, wFor, wO]
def wWhl (T : Fx) (n : Nat) (c : Te) (b : S) (m : Nat) (e : Env) (Q : Out → Prop) : Prop := wO (whlL (evt T c) (ex T n b) m e) Q
theorem wS_whl (T : Fx) (n : Nat) (c : Te) (b : S) (env : Env) (Q : Out → Prop) : wS T n (.whl c b) env Q = wWhl T n c b n env Q := by
  simp only [wS, ex, wWhl, wO]
/-- x[k] = v -/
def kSx2 (i : Nat) (dk dv : D) (e3 : Env) (Q : Out → Prop) : Option (Option Cell) → Prop
  | some (some c) => wO (setC c dk dv) fun c' => Q (.nx (e3.set i (some c')))
  | _ => False
theorem kSx2_c (i : Nat) (dk dv : D) (e3 : Env) (Q : Out → Prop) (c : Cell) : kSx2 i dk dv e3 Q (some (some c)) = wO (setC c dk dv) fun c' => Q (.nx (e3.set i (some c'))) := rfl
def kSx1 (i : Nat) (dv : D) (Q : Out → Prop) : Res → Prop
  | .ok (.d dk) e3 => kSx2 i dk dv e3 Q e3[i]?
  | .ok _ _ => False
  | .exc c e => Q (.exc c e)
theorem kSx1_d (i : Nat) (dv : D) (Q : Out → Prop) (dk : D) (e3 : Env) : kSx1 i dv Q (.ok (.d dk) e3) = kSx2 i dk dv e3 Q e3[i]? := rfl
theorem kSx1_exc (i : Nat) (dv : D) (Q : Out → Prop) (c : Str) (e3 : Env) : kSx1 i dv Q (.exc c e3) = Q (.exc c e3) := rfl
def kSx (T : Fx) (i : Nat) (k : E) (Q : Out → Prop) : Res → Prop
  | .ok v e1 => wO (frzS e1 [v]) fun e2 => wO (res e1 v) fun dv => isOwn (e2[i]?.getD none) = true ∧ wE T k e2 (kSx1 i dv Q)
  | .exc c e => Q (.exc c e)
theorem kSx_ok (T : Fx) (i : Nat) (k : E) (Q : Out → Prop) (v : Val) (e1 : Env) : kSx T i k Q (.ok v e1) = wO (frzS e1 [v]) fun e2 => wO (res e1 v) fun dv => isOwn (e2[i]?.getD none) = true ∧ wE T k e2 (kSx1 i dv Q) := rfl
theorem kSx_exc (T : Fx) (i : Nat) (k : E) (Q : Out → Prop) (c : Str) (e1 : Env) : kSx T i k Q (.exc c e1) = Q (.exc c e1) := rfl
theorem wS_setIx (T : Fx) (n i : Nat) (k v : E) (env : Env) (Q : Out → Prop) : wS T n (.setIx i k v) env Q = wE T v env (kSx T i k Q) := by
  unfold wS wE
  simp only [ex]
  cases Res.o (ev T v env) with
  | none => simp
  | some r =>
    cases r with
    | exc c e => simp [kSx]
    | ok v e =>
      simp only [Option.some.injEq, exists_eq_left', kSx]
      cases frzS e [v] with
      | none => simp [wO]
      | some e2 =>
        simp only [wO_some]
        cases res e v with
        | none => simp [wO]
        | some dv =>
          simp only [wO_some]
          cases h : isOwn (e2[i]?.getD none) with
          | false => simp
          | true =>
            simp only [if_true, true_and, wE]
            cases Res.o (ev T k e2) with
            | none => simp
            | some r =>
              cases r with
              | exc c e => simp [kSx1]
              | ok v e3 =>
                cases v with
                | d dk =>
                  simp only [Option.some.injEq, exists_eq_left', kSx1]
                  cases e3[i]? with
                  | none => simp [kSx2]
                  | some o =>
                    cases o with
                    | none => simp [kSx2]
                    | some c =>
                      simp only [kSx2]
                      cases setC c dk dv <;> simp [wO]
                | _ => simp [kSx1]
/-! ### try -/
def kTry (T : Fx) (n : Nat) (c : Str) (h : S) (Q : Out → Prop) : Out → Prop
  | .exc x e => wO (T.sub x c) fun b => (b = true → wO (noX (ex T n h e)) Q) ∧ (b = false → Q (.exc x e))
  | o => Q o
theorem wS_tryx (T : Fx) (n : Nat) (b : S) (c : Str) (h : S) (env : Env) (Q : Out → Prop) : wS T n (.tryx b c h) env Q = wS T n b env (kTry T n c h Q) := by
  unfold wS
  simp only [ex]
  cases ex T n b env with
  | none => simp
  | some o =>
    cases o <;> simp [kTry]
    rename_i x e
    cases T.sub x c with
    | none => simp [wO]
    | some b => cases b <;> simp [wO]
def kTas (T : Fx) (n : Nat) (c : Str) (i : Nat) (h : S) (Q : Out → Prop) : Out → Prop
  | .exc x e => wO (T.sub x c) fun b => (b = true → okS T i = true ∧ wS T n h (e.set i (some (.exc x))) (fun o => wO (offX i (some o)) Q)) ∧ (b = false → Q (.exc x e))
  | o => Q o
theorem wS_tryas (T : Fx) (n : Nat) (b : S) (c : Str) (i : Nat) (h : S) (env : Env) (Q : Out → Prop) : wS T n (.tryas b c i h) env Q = wS T n b env (kTas T n c i h Q) := by
  unfold wS
  simp only [ex]
  cases ex T n b env with
  | none => simp
  | some o =>
    cases o <;> simp only [Option.some.injEq, exists_eq_left', kTas]
    rename_i x e
    cases T.sub x c with
    | none => simp [wO]
    | some b =>
      cases b
      · simp [wO]
      · simp only [wO_some, true_implies, Bool.true_eq_false, false_implies, and_true]
        cases okS T i
        · simp
        · simp only [if_true, true_and, wS]
          cases ex T n h (e.set i (some (.exc x))) with
          | none => simp [offX]
          | some o => simp [wO]
theorem kTas_nx (T : Fx) (n : Nat) (c : Str) (i : Nat) (h : S) (Q : Out → Prop) (e : Env) : kTas T n c i h Q (.nx e) = Q (.nx e) := rfl
theorem kTas_rt (T : Fx) (n : Nat) (c : Str) (i : Nat) (h : S) (Q : Out → Prop) (v : Val) (e : Env) : kTas T n c i h Q (.rt v e) = Q (.rt v e) := rfl
theorem kTas_exc (T : Fx) (n : Nat) (c : Str) (i : Nat) (h : S) (Q : Out → Prop) (x : Str) (e : Env) : kTas T n c i h Q (.exc x e) = wO (T.sub x c) fun b => (b = true → okS T i = true ∧ wS T n h (e.set i (some (.exc x))) (fun o => wO (offX i (some o)) Q)) ∧ (b = false → Q (.exc x e)) := rfl
/-! ### two operands shown behind both, dicts' methods, list(range) -/
def kB2 (T : Fx) (f : B2) (b : E) (x : Val) (e1 : Env) (Q : Res → Prop) (d0 : D) : Prop := b2T f d0 = true ∧ wE T b e1 (kO2 (.b2 f) x Q)
theorem kB2_eq (T : Fx) (f : B2) (b : E) (x : Val) (e1 : Env) (Q : Res → Prop) (d0 : D) : kB2 T f b x e1 Q d0 = (b2T f d0 = true ∧ wE T b e1 (kO2 (.b2 f) x Q)) := rfl
def kB1 (T : Fx) (f : B2) (b : E) (Q : Res → Prop) : Res → Prop
  | .ok x e1 => wO (res e1 x) (kB2 T f b x e1 Q)
  | .exc c e => Q (.exc c e)
theorem kB1_ok (T : Fx) (f : B2) (b : E) (Q : Res → Prop) (x : Val) (e1 : Env) : kB1 T f b Q (.ok x e1) = wO (res e1 x) (kB2 T f b x e1 Q) := rfl
theorem kB1_exc (T : Fx) (f : B2) (b : E) (Q : Res → Prop) (c : Str) (e1 : Env) : kB1 T f b Q (.exc c e1) = Q (.exc c e1) := rfl
theorem wR_b2 (T : Fx) (f : B2) (a b : E) (env : Env) (Q : Res → Prop) : wR T (.b2 f a b) env Q = wE T a env (kB1 T f b Q) := by
  unfold wR
  simp only [ev, bnd_eq, ofO_eq]
  unfold wE
  refine congrArg _ (funext fun x => congrArg _ ?_)
  cases x with
  | exc c e => rfl
  | ok v e =>
    show wO (res e v) _ = wO (res e v) _
    refine congrArg _ (funext fun d0 => ?_)
    unfold kB2
    cases b2T f d0 with
    | false => simp
    | true =>
      simp only [if_true, true_and, bnd_eq, ofO_eq, some_ok, wE]
      refine congrArg _ (funext fun y => congrArg _ ?_)
      cases y <;> rfl
def kG7 (dx dy : D) (e4 : Env) (Q : Res → Prop) (dz : D) : Prop := wO (dgD dx dy dz) (kRd e4 Q)
theorem kG7_eq (dx dy : D) (e4 : Env) (Q : Res → Prop) (dz : D) : kG7 dx dy e4 Q dz = wO (dgD dx dy dz) (kRd e4 Q) := rfl
def kG6 (z : Val) (e3 e4 : Env) (dx : D) (Q : Res → Prop) (dy : D) : Prop := wO (res e3 z) (kG7 dx dy e4 Q)
theorem kG6_eq (z : Val) (e3 e4 : Env) (dx : D) (Q : Res → Prop) (dy : D) : kG6 z e3 e4 dx Q dy = wO (res e3 z) (kG7 dx dy e4 Q) := rfl
def kG5 (y z : Val) (e3 e4 : Env) (Q : Res → Prop) (dx : D) : Prop := wO (res e3 y) (kG6 z e3 e4 dx Q)
theorem kG5_eq (y z : Val) (e3 e4 : Env) (Q : Res → Prop) (dx : D) : kG5 y z e3 e4 Q dx = wO (res e3 y) (kG6 z e3 e4 dx Q) := rfl
def kG4 (x y z : Val) (e3 : Env) (Q : Res → Prop) (e4 : Env) : Prop := wO (res e3 x) (kG5 y z e3 e4 Q)
theorem kG4_eq (x y z : Val) (e3 : Env) (Q : Res → Prop) (e4 : Env) : kG4 x y z e3 Q e4 = wO (res e3 x) (kG5 y z e3 e4 Q) := rfl
def kG3 (x y : Val) (Q : Res → Prop) : Res → Prop
  | .ok z e3 => wO (frzS e3 [z]) (kG4 x y z e3 Q)
  | .exc c e => Q (.exc c e)
theorem kG3_ok (x y : Val) (Q : Res → Prop) (z : Val) (e3 : Env) : kG3 x y Q (.ok z e3) = wO (frzS e3 [z]) (kG4 x y z e3 Q) := rfl
theorem kG3_exc (x y : Val) (Q : Res → Prop) (c : Str) (e3 : Env) : kG3 x y Q (.exc c e3) = Q (.exc c e3) := rfl
def kG2 (T : Fx) (d : E) (x : Val) (Q : Res → Prop) : Res → Prop
  | .ok y e2 => wE T d e2 (kG3 x y Q)
  | .exc c e => Q (.exc c e)
theorem kG2_ok (T : Fx) (d : E) (x : Val) (Q : Res → Prop) (y : Val) (e2 : Env) : kG2 T d x Q (.ok y e2) = wE T d e2 (kG3 x y Q) := rfl
theorem kG2_exc (T : Fx) (d : E) (x : Val) (Q : Res → Prop) (c : Str) (e2 : Env) : kG2 T d x Q (.exc c e2) = Q (.exc c e2) := rfl
def kG1 (T : Fx) (k d : E) (x : Val) (e1 : Env) (Q : Res → Prop) (d0 : D) : Prop := isDct d0 = true ∧ wE T k e1 (kG2 T d x Q)
theorem kG1_eq (T : Fx) (k d : E) (x : Val) (e1 : Env) (Q : Res → Prop) (d0 : D) : kG1 T k d x e1 Q d0 = (isDct d0 = true ∧ wE T k e1 (kG2 T d x Q)) := rfl
def kG0 (T : Fx) (k d : E) (Q : Res → Prop) : Res → Prop
  | .ok x e1 => wO (res e1 x) (kG1 T k d x e1 Q)
  | .exc c e => Q (.exc c e)
theorem kG0_ok (T : Fx) (k d : E) (Q : Res → Prop) (x : Val) (e1 : Env) : kG0 T k d Q (.ok x e1) = wO (res e1 x) (kG1 T k d x e1 Q) := rfl
theorem kG0_exc (T : Fx) (k d : E) (Q : Res → Prop) (c : Str) (e1 : Env) : kG0 T k d Q (.exc c e1) = Q (.exc c e1) := rfl
theorem wR_dget (T : Fx) (a k d : E) (env : Env) (Q : Res → Prop) : wR T (.dget a k d) env Q = wE T a env (kG0 T k d Q) := by
  unfold wR
  simp only [ev, bnd_eq, ofO_eq]
  unfold wE
  refine congrArg _ (funext fun x => congrArg _ ?_)
  cases x with
  | exc c e => rfl
  | ok v e =>
    show wO (res e v) _ = wO (res e v) _
    refine congrArg _ (funext fun d0 => ?_)
    unfold kG1
    cases isDct d0 with
    | false => simp
    | true =>
      simp only [if_true, true_and, bnd_eq, ofO_eq, some_ok, wE]
      refine congrArg _ (funext fun y => congrArg _ ?_)
      cases y with
      | exc c e => rfl
      | ok y e2 =>
        show (∃ z, Res.o (ev T d e2) = some z ∧ k1 Q _ z) = ∃ z, Res.o (ev T d e2) = some z ∧ kG3 v y Q z
        refine congrArg _ (funext fun z => congrArg _ ?_)
        cases z <;> rfl
def kD6 (i : Nat) (e3 : Env) (Q : Res → Prop) (p : D × List (Key × D)) : Prop := Q (.ok (.d p.1) (e3.set i (some (.dic p.2))))
theorem kD6_eq (i : Nat) (e3 : Env) (Q : Res → Prop) (d : D) (kvs : List (Key × D)) : kD6 i e3 Q (d, kvs) = Q (.ok (.d d) (e3.set i (some (.dic kvs)))) := rfl
def kDs (i : Nat) (dy dz : D) (e3 : Env) (Q : Res → Prop) : Option (Option Cell) → Prop
  | some (some (.dic kvs)) => wO (dsD kvs dy dz) (kD6 i e3 Q)
  | _ => False
theorem kDs_dic (i : Nat) (dy dz : D) (e3 : Env) (Q : Res → Prop) (kvs : List (Key × D)) : kDs i dy dz e3 Q (some (some (.dic kvs))) = wO (dsD kvs dy dz) (kD6 i e3 Q) := rfl
def kD5 (i : Nat) (dy : D) (e3 : Env) (Q : Res → Prop) (dz : D) : Prop := kDs i dy dz e3 Q e3[i]?
theorem kD5_eq (i : Nat) (dy : D) (e3 : Env) (Q : Res → Prop) (dz : D) : kD5 i dy e3 Q dz = kDs i dy dz e3 Q e3[i]? := rfl
def kD4 (i : Nat) (z : Val) (e2 e3 : Env) (Q : Res → Prop) (dy : D) : Prop := wO (res e2 z) (kD5 i dy e3 Q)
theorem kD4_eq (i : Nat) (z : Val) (e2 e3 : Env) (Q : Res → Prop) (dy : D) : kD4 i z e2 e3 Q dy = wO (res e2 z) (kD5 i dy e3 Q) := rfl
def kD3 (i : Nat) (y z : Val) (e2 : Env) (Q : Res → Prop) (e3 : Env) : Prop := wO (res e2 y) (kD4 i z e2 e3 Q)
theorem kD3_eq (i : Nat) (y z : Val) (e2 : Env) (Q : Res → Prop) (e3 : Env) : kD3 i y z e2 Q e3 = wO (res e2 y) (kD4 i z e2 e3 Q) := rfl
def kD2 (i : Nat) (y : Val) (Q : Res → Prop) : Res → Prop
  | .ok z e2 => wO (frzS e2 [z]) (kD3 i y z e2 Q)
  | .exc c e => Q (.exc c e)
theorem kD2_ok (i : Nat) (y : Val) (Q : Res → Prop) (z : Val) (e2 : Env) : kD2 i y Q (.ok z e2) = wO (frzS e2 [z]) (kD3 i y z e2 Q) := rfl
theorem kD2_exc (i : Nat) (y : Val) (Q : Res → Prop) (c : Str) (e2 : Env) : kD2 i y Q (.exc c e2) = Q (.exc c e2) := rfl
def kD1 (T : Fx) (i : Nat) (d : E) (Q : Res → Prop) : Res → Prop
  | .ok y e1 => wE T d e1 (kD2 i y Q)
  | .exc c e => Q (.exc c e)
theorem kD1_ok (T : Fx) (i : Nat) (d : E) (Q : Res → Prop) (y : Val) (e1 : Env) : kD1 T i d Q (.ok y e1) = wE T d e1 (kD2 i y Q) := rfl
theorem kD1_exc (T : Fx) (i : Nat) (d : E) (Q : Res → Prop) (c : Str) (e1 : Env) : kD1 T i d Q (.exc c e1) = Q (.exc c e1) := rfl
theorem wR_dset (T : Fx) (i : Nat) (k d : E) (env : Env) (Q : Res → Prop) : wR T (.dset i k d) env Q = (isDic (env[i]?.getD none) = true ∧ wE T k env (kD1 T i d Q)) := by
  unfold wR
  simp only [ev]
  cases isDic (env[i]?.getD none) with
  | false => simp
  | true =>
    simp only [if_true, true_and, bnd_eq, ofO_eq, wE]
    refine congrArg _ (funext fun y => congrArg _ ?_)
    cases y with
    | exc c e => rfl
    | ok y e1 =>
      show (∃ z, Res.o (ev T d e1) = some z ∧ k1 Q _ z) = ∃ z, Res.o (ev T d e1) = some z ∧ kD2 i y Q z
      refine congrArg _ (funext fun z => congrArg _ ?_)
      cases z with
      | exc c e => rfl
      | ok z e2 =>
        show wO (frzS e2 [z]) _ = wO (frzS e2 [z]) _
        refine congrArg _ (funext fun e3 => ?_)
        show wO (res e2 y) _ = wO (res e2 y) _
        refine congrArg _ (funext fun dy => ?_)
        show wO (res e2 z) _ = wO (res e2 z) _
        refine congrArg _ (funext fun dz => ?_)
        unfold kD5
        cases e3[i]? with
        | none => simp [kDs]
        | some o =>
          cases o with
          | none => simp [kDs]
          | some c => cases c <;> simp [kDs, ofO_eq]; rfl
theorem wR_lsI (T : Fx) (it : It) (env : Env) (Q : Res → Prop) : wR T (.lsI it) env Q = wI T it env (kI (fun c e => Q (.exc c e)) fun ds e1 => ds.length ≤ 1000000 ∧ Q (.ok (.fr (.lst ds)) e1)) := by
  unfold wR wI
  simp only [ev]
  cases evi T it env with
  | none => simp
  | some r =>
    cases r with
    | exc c e => simp [kI]
    | ok ds e =>
      simp only [Option.some.injEq, exists_eq_left', kI]
      by_cases h : ds.length ≤ 1000000 <;> simp [h]
def kEn (Q : RsI → Prop) : Res → Prop
  | .ok v e => wO (frzS e [v]) fun e2 => wO (res e v) fun d => (match d with
    | .list ds => Q (.ok (enumD ds) e2)
    | _ => False)
  | .exc c e => Q (.exc c e)
theorem kEn_ok (Q : RsI → Prop) (v : Val) (e : Env) : kEn Q (.ok v e) = wO (frzS e [v]) fun e2 => wO (res e v) fun d => (match d with
    | .list ds => Q (.ok (enumD ds) e2)
    | _ => False) := rfl
theorem kEn_exc (Q : RsI → Prop) (c : Str) (e : Env) : kEn Q (.exc c e) = Q (.exc c e) := rfl
theorem wI_enum (T : Fx) (a : E) (env : Env) (Q : RsI → Prop) : wI T (.enum a) env Q = wE T a env (kEn Q) := by
  unfold wI wE
  simp only [evi]
  cases Res.o (ev T a env) with
  | none => simp
  | some r =>
    cases r with
    | exc c e => simp [kEn]
    | ok v e =>
      simp only [Option.some.injEq, exists_eq_left', kEn]
      cases frzS e [v] with
      | none => simp [wO]
      | some e2 =>
        simp only [wO_some]
        cases res e v with
        | none => simp [wO]
        | some d => cases d <;> simp [wO]
def kRev (Q : RsI → Prop) : Res → Prop
  | .ok v e => wO (frzS e [v]) fun e2 => wO (res e v) fun d => (match d with
    | .list ds => Q (.ok ds.reverse e2)
    | .tuple ds => Q (.ok ds.reverse e2)
    | _ => False)
  | .exc c e => Q (.exc c e)
theorem kRev_ok (Q : RsI → Prop) (v : Val) (e : Env) : kRev Q (.ok v e) = wO (frzS e [v]) fun e2 => wO (res e v) fun d => (match d with
    | .list ds => Q (.ok ds.reverse e2)
    | .tuple ds => Q (.ok ds.reverse e2)
    | _ => False) := rfl
theorem kRev_exc (Q : RsI → Prop) (c : Str) (e : Env) : kRev Q (.exc c e) = Q (.exc c e) := rfl
theorem wI_rev (T : Fx) (a : E) (env : Env) (Q : RsI → Prop) : wI T (.rev a) env Q = wE T a env (kRev Q) := by
  unfold wI wE
  simp only [evi]
  cases Res.o (ev T a env) with
  | none => simp
  | some r =>
    cases r with
    | exc c e => simp [kRev]
    | ok v e =>
      simp only [Option.some.injEq, exists_eq_left', kRev]
      cases frzS e [v] with
      | none => simp [wO]
      | some e2 =>
        simp only [wO_some]
        cases res e v with
        | none => simp [wO]
        | some d => cases d <;> simp [wO]
def kRr (Q : RsI → Prop) : RsL → Prop
  | .ok [.d (.int n)] e => (-1000000 ≤ n ∧ n ≤ 1000000) ∧ Q (.ok ((List.range n.toNat).map fun (k : Nat) => PyData.int (0 + ((n.toNat : Nat) : Int) - 1 + (k : Int) * (-1))) e)
  | _ => False
theorem kRr_1 (Q : RsI → Prop) (n : Int) (e : Env) : kRr Q (.ok [.d (.int n)] e) = ((-1000000 ≤ n ∧ n ≤ 1000000) ∧ Q (.ok ((List.range n.toNat).map fun (k : Nat) => PyData.int (0 + ((n.toNat : Nat) : Int) - 1 + (k : Int) * (-1))) e)) := rfl
theorem wI_revr (T : Fx) (es : Es) (env : Env) (Q : RsI → Prop) : wI T (.revr es) env Q = wEs T es env (kRr Q) := by
  refine propext ⟨fun h => ?_, fun h => ?_⟩
  · obtain ⟨r, h1, h2⟩ := h
    simp only [evi] at h1
    split at h1
    · rename_i n e q
      split at h1
      · rename_i z
        cases h1
        exact ⟨_, q, of_decide_eq_true z, h2⟩
      · cases h1
    · cases h1
  · obtain ⟨r, h1, h2⟩ := h
    unfold kRr at h2
    split at h2
    · refine ⟨_, ?_, h2.2⟩
      simp only [evi, h1, h2.1, and_self, decide_true, if_true]
    · exact h2.elim
/-- x[k] op= e -/
def kAx2 (i : Nat) (ki : Int) (z : D) (e2 : Env) (Q : Out → Prop) : Option (Option Cell) → Prop
  | some (some (.lst xs)) => wO (ixN xs.length ki) fun j => Q (.nx (e2.set i (some (.lst (xs.set j z)))))
  | _ => False
theorem kAx2_lst (i : Nat) (ki : Int) (z : D) (e2 : Env) (Q : Out → Prop) (xs : List D) : kAx2 i ki z e2 Q (some (some (.lst xs))) = wO (ixN xs.length ki) fun j => Q (.nx (e2.set i (some (.lst (xs.set j z))))) := rfl
def kAx (i : Nat) (ki : Int) (op : Operator) (x : D) (Q : Out → Prop) : Res → Prop
  | .ok v e2 => wO (res e2 v) fun y => wBin op x y fun z => (match z with
    | .d z => scalD z = true ∧ kAx2 i ki z e2 Q e2[i]?
    | _ => False)
  | _ => False
theorem kAx_ok (i : Nat) (ki : Int) (op : Operator) (x : D) (Q : Out → Prop) (v : Val) (e2 : Env) : kAx i ki op x Q (.ok v e2) = wO (res e2 v) fun y => wBin op x y fun z => (match z with
    | .d z => scalD z = true ∧ kAx2 i ki z e2 Q e2[i]?
    | _ => False) := rfl
def kAx1 (T : Fx) (i : Nat) (op : Operator) (a : E) (ki : Int) (e1 : Env) (Q : Out → Prop) : Option (Option Cell) → Prop
  | some (some (.lst xs)) => wO (atI xs ki) fun x => wE T a e1 (kAx i ki op x Q)
  | _ => False
theorem kAx1_lst (T : Fx) (i : Nat) (op : Operator) (a : E) (ki : Int) (e1 : Env) (Q : Out → Prop) (xs : List D) : kAx1 T i op a ki e1 Q (some (some (.lst xs))) = wO (atI xs ki) fun x => wE T a e1 (kAx i ki op x Q) := rfl
def kAx0 (T : Fx) (i : Nat) (op : Operator) (a : E) (Q : Out → Prop) : Res → Prop
  | .ok (.d (.int ki)) e1 => kAx1 T i op a ki e1 Q e1[i]?
  | _ => False
theorem kAx0_i (T : Fx) (i : Nat) (op : Operator) (a : E) (Q : Out → Prop) (ki : Int) (e1 : Env) : kAx0 T i op a Q (.ok (.d (.int ki)) e1) = kAx1 T i op a ki e1 Q e1[i]? := rfl
theorem wS_augIx_of {T : Fx} {n i : Nat} {k a : E} {op : Operator} {env : Env} {Q : Out → Prop} (h : isLst (env[i]?.getD none) = true ∧ wE T k env (kAx0 T i op a Q)) : wS T n (.augIx i k op a) env Q := by
  obtain ⟨hl, r, h1, h2⟩ := h
  have e1 : ∃ xs0, env[i]? = some (some (.lst xs0)) := by
    cases e2 : env[i]? with
    | none => rw [e2] at hl; simp [isLst] at hl
    | some z =>
      rw [e2] at hl
      cases z with
      | none => simp [isLst] at hl
      | some c => cases c <;> simp [isLst] at hl; exact ⟨_, rfl⟩
  obtain ⟨xs0, e1⟩ := e1
  unfold kAx0 at h2
  split at h2
  · rename_i ki e1'
    unfold kAx1 at h2
    split at h2
    · rename_i xs ei
      obtain ⟨x, h3, r2, h4, h5⟩ := h2
      unfold kAx at h5
      split at h5
      · rename_i v e2
        obtain ⟨y, h6, z, h7, h8⟩ := h5
        split at h8
        · rename_i z
          obtain ⟨h9, h10⟩ := h8
          unfold kAx2 at h10
          split at h10
          · rename_i xs2 ei2
            obtain ⟨j, h11, h12⟩ := h10
            refine ⟨_, ?_, h12⟩
            simp only [ex, e1, h1, ei, h3, h4, h6, h7, ei2, h9, if_true, h11]
          · exact h10.elim
        · exact h8.elim
      · exact h5.elim
    · exact h2.elim
  · exact h2.elim
theorem wS_augIx (T : Fx) (n i : Nat) (k a : E) (op : Operator) (env : Env) (Q : Out → Prop) (h : isLst (env[i]?.getD none) = true ∧ wE T k env (kAx0 T i op a Q)) : wS T n (.augIx i k op a) env Q = True := eq_true (wS_augIx_of h)
theorem intsD_map (ns : List Int) : intsD (ns.map PyData.int) = some ns := by
  induction ns with
  | nil => rfl
  | cons n ns ih => simp [intsD, ih]
/-! ### functions -/
theorem runP_w {T : Fx} {n m : Nat} {s : S} {ds : List D} {r : PRes} (h : wS T n s (initE m (ds.map .val)) fun o => (match o with
    | .rt (.d d) _ => some (PRes.ok (.val d))
    | .rt (.fr c) _ => some (.ok c)
    | .rt (.sl i) env => (match env[i]? with
      | some (some c) => some (.ok c)
      | _ => none)
    | .nx _ => some (.ok (.val .none))
    | .exc c _ => some (.exc c)
    | _ => none) = some r) : runP T n m s ds = some r := by
  obtain ⟨o, h1, h2⟩ := h
  unfold runP
  rw [h1]
  cases o with
  | rt v e => cases v <;> exact h2
  | _ => exact h2
theorem runM_w {T : Fx} {n m : Nat} {s : S} {c : Cell} {ds : List D} {r : MRes} (h : wS { T with lock0 := true } n s (initE m (c :: ds.map .val)) fun o => (match o with
    | .rt (.d d) env => (match env[0]? with
      | some (some c') => some (MRes.ok (.val d) c')
      | _ => none)
    | .rt (.fr r) env => (match env[0]? with
      | some (some c') => some (.ok r c')
      | _ => none)
    | .rt (.sl (i + 1)) env => (match env[i + 1]?, env[0]? with
      | some (some r), some (some c') => some (.ok r c')
      | _, _ => none)
    | .nx env => (match env[0]? with
      | some (some c') => some (.ok (.val .none) c')
      | _ => none)
    | .exc e env => (match env[0]? with
      | some (some c') => some (.exc e c')
      | _ => none)
    | _ => none) = some r) : runM T n m s c ds = some r := by
  obtain ⟨o, h1, h2⟩ := h
  unfold runM
  rw [h1]
  cases o with
  | rt v e => cases v <;> first | exact h2 | (rename_i i; cases i <;> exact h2)
  | _ => exact h2
end Fin
/-! Fin W2: loops and comprehensions by what they keep; the simp word. -/
namespace Fin
open PySem PySem.Spec PyProof.Rows L2
def kLp (I : Env → Prop) (Q : Out → Prop) : Out → Prop
  | .nx e => I e
  | .ct e => I e
  | .bk e => Q (.nx e)
  | .rt v e => Q (.rt v e)
  | .exc c e => Q (.exc c e)
theorem kLp_nx (I : Env → Prop) (Q : Out → Prop) (e : Env) : kLp I Q (.nx e) = I e := rfl
theorem kLp_ct (I : Env → Prop) (Q : Out → Prop) (e : Env) : kLp I Q (.ct e) = I e := rfl
theorem kLp_bk (I : Env → Prop) (Q : Out → Prop) (e : Env) : kLp I Q (.bk e) = Q (.nx e) := rfl
theorem kLp_rt (I : Env → Prop) (Q : Out → Prop) (v : Val) (e : Env) : kLp I Q (.rt v e) = Q (.rt v e) := rfl
theorem kLp_exc (I : Env → Prop) (Q : Out → Prop) (c : Str) (e : Env) : kLp I Q (.exc c e) = Q (.exc c e) := rfl
def wBind (T : Fx) (t : Tg) (d : D) (e : Env) (K : Env → Prop) : Prop := wO (bindT T t d e) K
theorem wBind_one (T : Fx) (i : Nat) (d : D) (e : Env) (K : Env → Prop) : wBind T (.one i) d e K = (okS T i = true ∧ K (e.set i (some (.val d)))) := by
  unfold wBind
  simp only [bindT]
  cases okS T i <;> simp [wO]
theorem wBind_many (T : Fx) (is : List Nat) (ds : List D) (e : Env) (K : Env → Prop) : wBind T (.many is) (.tuple ds) e K = wO (bindL T is ds e) K := rfl
theorem wFor_nil (T : Fx) (n : Nat) (t : Tg) (b : S) (e : Env) (Q : Out → Prop) : wFor T n t b [] e Q = Q (.nx e) := by simp [wFor, forL, wO]
theorem wFor_cons (T : Fx) (n : Nat) (t : Tg) (b : S) (d : D) (ds : List D) (e : Env) (Q : Out → Prop) : wFor T n t b (d :: ds) e Q = wBind T t d e fun e1 => wS T n b e1 (kLp (fun e2 => wFor T n t b ds e2 Q) Q) := by
  unfold wFor wBind wS
  simp only [forL]
  cases bindT T t d e with
  | none => simp [wO]
  | some e1 =>
    simp only [wO_some]
    cases ex T n b e1 with
    | none => simp [wO]
    | some o => cases o <;> simp [wO, kLp]
/-- a loop by what it keeps: before the turn over each place -/
theorem wFor_at {T : Fx} {n : Nat} {t : Tg} {b : S} {ds : List D} {e : Env} {Q : Out → Prop} (I : Nat → Env → Prop) (h0 : I 0 e)
    (hs : ∀ j d e, ds[j]? = some d → I j e → wBind T t d e fun e1 => wS T n b e1 (kLp (I (j + 1)) Q)) (hq : ∀ e, I ds.length e → Q (.nx e)) : wFor T n t b ds e Q := by
  have h : ∀ (l : List D) (j : Nat) (e : Env), ds.drop j = l → I j e → j ≤ ds.length → wFor T n t b l e Q := by
    intro l
    induction l with
    | nil =>
      intro j e hl hi hj
      rw [wFor_nil]
      have : ds.length ≤ j := List.drop_eq_nil_iff.mp hl
      have : j = ds.length := by omega
      subst this
      exact hq e hi
    | cons d l ih =>
      intro j e hl hi hj
      have hd : ds[j]? = some d := by
        have := congrArg (fun l => l[0]?) hl
        simpa using this
      have hlt : j < ds.length := (List.getElem?_eq_some_iff.mp hd).1
      have hl2 : ds.drop (j + 1) = l := by
        rw [List.drop_eq_getElem_cons hlt] at hl
        exact (List.cons.inj hl).2
      rw [wFor_cons]
      obtain ⟨e1, h1, h2⟩ := hs j d e hd hi
      refine ⟨e1, h1, ?_⟩
      obtain ⟨o, h3, h4⟩ := h2
      refine ⟨o, h3, ?_⟩
      cases o with
      | nx e2 => exact ih (j + 1) e2 hl2 h4 hlt
      | ct e2 => exact ih (j + 1) e2 hl2 h4 hlt
      | bk e2 => exact h4
      | rt v e2 => exact h4
      | exc c e2 => exact h4
  exact h ds 0 e rfl h0 (Nat.zero_le _)
theorem wFor_rng {T : Fx} {n : Nat} {t : Tg} {b : S} {a z : Int} {e : Env} {Q : Out → Prop} (I : Nat → Env → Prop) (h0 : I 0 e)
    (hs : ∀ (j : Nat) e, (j : Int) < z - a → I j e → wBind T t (.int (a + (j : Int))) e fun e1 => wS T n b e1 (kLp (I (j + 1)) Q)) (hq : ∀ e, I (z - a).toNat e → Q (.nx e)) : wFor T n t b (rngL a z) e Q := by
  refine wFor_at I h0 (fun j d e hd hi => ?_) fun e hi => hq e (by simpa [rngL] using hi)
  unfold rngL at hd
  rw [List.getElem?_map] at hd
  have hj : j < (z - a).toNat := by
    cases q : (List.range (z - a).toNat)[j]? with
    | none => rw [q] at hd; cases hd
    | some x => have := (List.getElem?_eq_some_iff.mp q).1; simpa using this
  rw [List.getElem?_range hj] at hd
  cases hd
  exact hs j e (by omega) hi
/-- .. over a list of things shown -/
theorem wFor_map {α : Type} {T : Fx} {n : Nat} {t : Tg} {b : S} {f : α → D} {l : List α} {e : Env} {Q : Out → Prop} (I : List α → Env → Prop) (h0 : I [] e)
    (hs : ∀ pre x post e, l = pre ++ x :: post → I pre e → wBind T t (f x) e fun e1 => wS T n b e1 (kLp (I (pre ++ [x])) Q)) (hq : ∀ e, I l e → Q (.nx e)) : wFor T n t b (l.map f) e Q := by
  refine wFor_at (fun j e => I (l.take j) e) (by simpa using h0) (fun j d e hd hi => ?_) fun e hi => hq e (by simpa using hi)
  rw [List.getElem?_map] at hd
  cases q : l[j]? with
  | none => rw [q] at hd; cases hd
  | some x =>
    rw [q] at hd
    cases hd
    have hlt : j < l.length := (List.getElem?_eq_some_iff.mp q).1
    have hx : l[j] = x := (List.getElem?_eq_some_iff.mp q).2
    have e1 : l = l.take j ++ x :: l.drop (j + 1) := by rw [← hx, List.getElem_cons_drop, List.take_append_drop]
    have e2 : l.take (j + 1) = l.take j ++ [x] := by rw [List.take_succ, q]; rfl
    simp only [e2]
    exact hs _ x _ e e1 hi
/-- a while loop by what it keeps, m : a number of turns that is enough -/
theorem wWhl_inv {T : Fx} {n : Nat} {c : Te} {b : S} {Q : Out → Prop} (I : Nat → Env → Prop)
    (hs : ∀ m e, I m e → wT T c e (kT (fun c e => Q (.exc c e)) fun v e1 => (v = true → wS T n b e1 (kLp (fun e2 => ∃ m', m' < m ∧ I m' e2) Q)) ∧ (v = false → Q (.nx e1)))) : ∀ (M m : Nat) (e : Env), I m e → m < M → wWhl T n c b M e Q
  | 0, m, e, _, h => absurd h (Nat.not_lt_zero _)
  | M + 1, m, e, hi, hm => by
    obtain ⟨r, h1, h2⟩ := hs m e hi
    unfold wWhl
    simp only [whlL, h1]
    cases r with
    | exc c e1 => exact ⟨_, rfl, h2⟩
    | ok v e1 =>
      cases v with
      | false => exact ⟨_, rfl, h2.2 rfl⟩
      | true =>
        obtain ⟨o, h3, h4⟩ := h2.1 rfl
        simp only [h3]
        cases o with
        | nx e2 =>
          obtain ⟨m', h5, h6⟩ := h4
          exact wWhl_inv I hs M m' e2 h6 (by omega)
        | ct e2 =>
          obtain ⟨m', h5, h6⟩ := h4
          exact wWhl_inv I hs M m' e2 h6 (by omega)
        | bk e2 => exact ⟨_, rfl, h4⟩
        | rt v e2 => exact ⟨_, rfl, h4⟩
        | exc c e2 => exact ⟨_, rfl, h4⟩
/-! ### comprehensions -/
theorem wComp_nil (T : Fx) (elt : E) (i : Nat) (cnd : Te) (e : Env) (acc : List D) (K : List D → Env → Prop) : wComp T elt i cnd [] e acc K = K acc e := by
  unfold wComp
  simp only [compL]
  exact propext ⟨fun ⟨xs, e2, h, q⟩ => by cases h; exact q, fun q => ⟨acc, e, rfl, q⟩⟩
def kV (K : D → Env → Prop) : Res → Prop
  | .ok (.d d) e => K d e
  | _ => False
theorem kV_d (K : D → Env → Prop) (d : D) (e : Env) : kV K (.ok (.d d) e) = K d e := rfl
def kC (T : Fx) (elt : E) (i : Nat) (cnd : Te) (ds : List D) (acc : List D) (K : List D → Env → Prop) : RsT → Prop
  | .ok true e1 => wE T elt e1 (kV fun d e2 => acc.length < line ∧ wComp T elt i cnd ds (e2.set i none) (acc ++ [d]) K)
  | .ok false e1 => wComp T elt i cnd ds (e1.set i none) acc K
  | .exc _ _ => False
theorem wComp_cons (T : Fx) (elt : E) (i : Nat) (cnd : Te) (d : D) (ds : List D) (e : Env) (acc : List D) (K : List D → Env → Prop) : wComp T elt i cnd (d :: ds) e acc K = wT T cnd (e.set i (some (.val d))) (kC T elt i cnd ds acc K) := by
  unfold wComp wT
  simp only [compL]
  cases evt T cnd (e.set i (some (.val d))) with
  | none => simp
  | some r =>
    cases r with
    | exc c e => simp [kC]
    | ok v e1 =>
      cases v with
      | false => simp [kC, wComp]
      | true =>
        simp only [Option.some.injEq, exists_eq_left', kC, wE]
        cases Res.o (ev T elt e1) with
        | none => simp
        | some r2 =>
          cases r2 with
          | exc c e => simp [kV]
          | ok v e2 =>
            cases v with
            | d d =>
              simp only [Option.some.injEq, exists_eq_left', kV, wComp]
              by_cases h : acc.length < line
              · simp [h]
              · simp [h]
            | _ => simp [kV]
/-- a comprehension by what it keeps -/
theorem wComp_at {T : Fx} {elt : E} {i : Nat} {cnd : Te} {ds : List D} {e : Env} {K : List D → Env → Prop} (I : Nat → List D → Env → Prop) (h0 : I 0 [] e)
    (hs : ∀ j d acc e, ds[j]? = some d → I j acc e → wT T cnd (e.set i (some (.val d))) (kT (fun _ _ => False) fun v e1 => (v = true → wE T elt e1 (kV fun d' e2 => acc.length < line ∧ I (j + 1) (acc ++ [d']) (e2.set i none))) ∧ (v = false → I (j + 1) acc (e1.set i none))))
    (hq : ∀ acc e, I ds.length acc e → K acc e) : wComp T elt i cnd ds e [] K := by
  have h : ∀ (l : List D) (j : Nat) (acc : List D) (e : Env), ds.drop j = l → I j acc e → j ≤ ds.length → wComp T elt i cnd l e acc K := by
    intro l
    induction l with
    | nil =>
      intro j acc e hl hi hj
      rw [wComp_nil]
      have : ds.length ≤ j := List.drop_eq_nil_iff.mp hl
      have : j = ds.length := by omega
      subst this
      exact hq acc e hi
    | cons d l ih =>
      intro j acc e hl hi hj
      have hd : ds[j]? = some d := by
        have := congrArg (fun l => l[0]?) hl
        simpa using this
      have hlt : j < ds.length := (List.getElem?_eq_some_iff.mp hd).1
      have hl2 : ds.drop (j + 1) = l := by
        rw [List.drop_eq_getElem_cons hlt] at hl
        exact (List.cons.inj hl).2
      rw [wComp_cons]
      obtain ⟨r, h1, h2⟩ := hs j d acc e hd hi
      refine ⟨r, h1, ?_⟩
      cases r with
      | exc c e1 => exact h2
      | ok v e1 =>
        cases v with
        | false => exact ih (j + 1) acc _ hl2 (h2.2 rfl) hlt
        | true =>
          obtain ⟨r2, h3, h4⟩ := h2.1 rfl
          refine ⟨r2, h3, ?_⟩
          cases r2 with
          | exc c e2 => exact h4
          | ok v2 e2 =>
            cases v2 with
            | d d' => exact ⟨h4.1, ih (j + 1) _ _ hl2 h4.2 hlt⟩
            | _ => exact h4
  exact h ds 0 [] e rfl h0 (Nat.zero_le _)
/-- .. that keeps its surroundings: a filter and a map -/
theorem wComp_map {α : Type} {T : Fx} {elt : E} {i : Nat} {cnd : Te} {g : α → D} {l : List α} {e : Env} {K : List D → Env → Prop} (p : α → Bool) (f : α → D) (he : e.set i none = e) (hl : l.length ≤ line)
    (hs : ∀ x, x ∈ l → wT T cnd (e.set i (some (.val (g x)))) (kT (fun _ _ => False) fun v e1 => v = p x ∧ e1 = e.set i (some (.val (g x)))) ∧ (p x = true → wE T elt (e.set i (some (.val (g x)))) (kV fun d e2 => d = f x ∧ e2 = e.set i (some (.val (g x))))))
    (hq : K ((l.filter p).map f) e) : wComp T elt i cnd (l.map g) e [] K := by
  refine wComp_at (fun j acc e' => acc = ((l.take j).filter p).map f ∧ e' = e) ⟨by simp, rfl⟩ (fun j d acc e' hd hi => ?_) fun acc e' hi => ?_
  · obtain ⟨rfl, rfl⟩ := hi
    rw [List.getElem?_map] at hd
    cases q : l[j]? with
    | none => rw [q] at hd; cases hd
    | some x =>
      rw [q] at hd
      cases hd
      have hm : x ∈ l := List.mem_of_getElem? q
      have hlt : j < l.length := (List.getElem?_eq_some_iff.mp q).1
      have e2 : l.take (j + 1) = l.take j ++ [x] := by rw [List.take_succ, q]; rfl
      obtain ⟨⟨r, h1, h2⟩, h3⟩ := hs x hm
      refine ⟨r, h1, ?_⟩
      cases r with
      | exc c e1 => exact h2
      | ok v e1 =>
        obtain ⟨hv, he1⟩ := h2
        subst hv he1
        refine ⟨fun hp => ?_, fun hp => ⟨?_, by rw [List.set_set, he]⟩⟩
        · obtain ⟨r2, h4, h5⟩ := h3 hp
          refine ⟨r2, h4, ?_⟩
          cases r2 with
          | exc c e2 => exact h5
          | ok v2 e2 =>
            cases v2 with
            | d d' =>
              obtain ⟨h6, h7⟩ := h5
              subst h6 h7
              refine ⟨?_, ?_, by rw [List.set_set, he]⟩
              · have := List.length_filter_le p (l.take j)
                simp only [List.length_map, List.length_take] at this ⊢
                omega
              · rw [e2, List.filter_append, List.map_append, List.filter_cons_of_pos hp]
                rfl
            | _ => exact h5
        · rw [e2, List.filter_append, List.filter_cons_of_neg (by rw [hp]; simp)]
          simp
  · obtain ⟨rfl, rfl⟩ := hi
    rw [List.length_map, List.take_length]
    exact hq
theorem wComp_rng {T : Fx} {elt : E} {i : Nat} {cnd : Te} {a z : Int} {e : Env} {K : List D → Env → Prop} (p : Nat → Bool) (f : Nat → D) (he : e.set i none = e) (hl : (z - a).toNat ≤ line)
    (hs : ∀ x : Nat, (x : Int) < z - a → wT T cnd (e.set i (some (.val (.int (a + (x : Int)))))) (kT (fun _ _ => False) fun v e1 => v = p x ∧ e1 = e.set i (some (.val (.int (a + (x : Int)))))) ∧ (p x = true → wE T elt (e.set i (some (.val (.int (a + (x : Int)))))) (kV fun d e2 => d = f x ∧ e2 = e.set i (some (.val (.int (a + (x : Int))))))))
    (hq : K (((List.range (z - a).toNat).filter p).map f) e) : wComp T elt i cnd (rngL a z) e [] K :=
  wComp_map p f he (by simpa using hl) (fun x hx => hs x (by have := List.mem_range.mp hx; omega)) hq
/-! ### calls by name -/
def kP (e e' : Env) (Q : Res → Prop) : PRes → Prop
  | .ok c => Q (.ok (asVal c) (if scalC c then e else e'))
  | .exc c => Q (.exc c e)
theorem kP_val (e e' : Env) (Q : Res → Prop) (d : D) : kP e e' Q (.ok (.val d)) = Q (.ok (.d d) (if scalD d = true then e else e')) := rfl
theorem kP_lst (e e' : Env) (Q : Res → Prop) (xs : List D) : kP e e' Q (.ok (.lst xs)) = Q (.ok (.fr (.lst xs)) e') := rfl
theorem kP_dic (e e' : Env) (Q : Res → Prop) (xs : List (Key × D)) : kP e e' Q (.ok (.dic xs)) = Q (.ok (.fr (.dic xs)) e') := rfl
theorem kP_exc (e e' : Env) (Q : Res → Prop) (c : Str) : kP e e' Q (.exc c) = Q (.exc c e) := rfl
def kC3 (F : List D → Option PRes) (ds : List D) (e : Env) (Q : Res → Prop) (e' : Env) : Prop := wO (F ds) (kP e e' Q)
theorem kC3_eq (F : List D → Option PRes) (ds : List D) (e : Env) (Q : Res → Prop) (e' : Env) : kC3 F ds e Q e' = wO (F ds) (kP e e' Q) := rfl
def kC2 (F : List D → Option PRes) (vs : List Val) (e : Env) (Q : Res → Prop) (ds : List D) : Prop := wO (frzS e vs) (kC3 F ds e Q)
theorem kC2_eq (F : List D → Option PRes) (vs : List Val) (e : Env) (Q : Res → Prop) (ds : List D) : kC2 F vs e Q ds = wO (frzS e vs) (kC3 F ds e Q) := rfl
def kC1 (F : List D → Option PRes) (Q : Res → Prop) : RsL → Prop
  | .ok vs e => wO (resL e vs) (kC2 F vs e Q)
  | .exc c e => Q (.exc c e)
theorem kC1_ok (F : List D → Option PRes) (Q : Res → Prop) (vs : List Val) (e : Env) : kC1 F Q (.ok vs e) = wO (resL e vs) (kC2 F vs e Q) := rfl
theorem kC1_exc (F : List D → Option PRes) (Q : Res → Prop) (c : Str) (e : Env) : kC1 F Q (.exc c e) = Q (.exc c e) := rfl
theorem wC {T : Fx} {f : Str} {F : List D → Option PRes} (h : T.fns f = some (.pure F)) (es : Es) (env : Env) (Q : Res → Prop) : wR T (.call f es) env Q = wEs T es env (kC1 F Q) := by
  rw [wR_call T f es env Q _ h]
  unfold wEs
  refine congrArg _ (funext fun r => congrArg _ ?_)
  cases r with
  | exc c e => rfl
  | ok vs e =>
    simp only [kC1, callF]
    cases resL e vs with
    | none => simp [wO]
    | some ds =>
      simp only [wO_some, kC2]
      cases frzS e vs with
      | none => simp [wO]
      | some e' =>
        simp only [wO_some, kC3]
        cases F ds with
        | none => simp [wO]
        | some r => cases r <;> simp [wO, kP]
def kM (i : Nat) (e : Env) (Q : Res → Prop) : MRes → Prop
  | .ok r c' => Q (.ok (asVal r) (e.set i (some c')))
  | .exc x c' => Q (.exc x (e.set i (some c')))
theorem kM_ok (i : Nat) (e : Env) (Q : Res → Prop) (r c' : Cell) : kM i e Q (.ok r c') = Q (.ok (asVal r) (e.set i (some c'))) := rfl
theorem kM_exc (i : Nat) (e : Env) (Q : Res → Prop) (x : Str) (c' : Cell) : kM i e Q (.exc x c') = Q (.exc x (e.set i (some c'))) := rfl
def kMc (F : Cell → List D → Option MRes) (i : Nat) (ds : List D) (e : Env) (Q : Res → Prop) : Option (Option Cell) → Prop
  | some (some c) => isVal c = false ∧ wO (F c ds) (kM i e Q)
  | _ => False
theorem kMc_c (F : Cell → List D → Option MRes) (i : Nat) (ds : List D) (e : Env) (Q : Res → Prop) (c : Cell) : kMc F i ds e Q (some (some c)) = (isVal c = false ∧ wO (F c ds) (kM i e Q)) := rfl
def kMv2 (F : Cell → List D → Option MRes) (i : Nat) (e : Env) (Q : Res → Prop) (ds : List D) : Prop := kMc F i ds e Q e[i]?
theorem kMv2_eq (F : Cell → List D → Option MRes) (i : Nat) (e : Env) (Q : Res → Prop) (ds : List D) : kMv2 F i e Q ds = kMc F i ds e Q e[i]? := rfl
def kMv (F : Cell → List D → Option MRes) (Q : Res → Prop) : RsL → Prop
  | .ok (.sl i :: vs) e => hasSl vs = false ∧ wO (resL e vs) (kMv2 F i e Q)
  | .ok _ _ => False
  | .exc c e => Q (.exc c e)
theorem kMv_sl (F : Cell → List D → Option MRes) (Q : Res → Prop) (i : Nat) (vs : List Val) (e : Env) : kMv F Q (.ok (.sl i :: vs) e) = (hasSl vs = false ∧ wO (resL e vs) (kMv2 F i e Q)) := rfl
theorem kMv_exc (F : Cell → List D → Option MRes) (Q : Res → Prop) (c : Str) (e : Env) : kMv F Q (.exc c e) = Q (.exc c e) := rfl
theorem wCm {T : Fx} {f : Str} {F : Cell → List D → Option MRes} (h : T.fns f = some (.mt F)) (es : Es) (env : Env) (Q : Res → Prop) : wR T (.call f es) env Q = wEs T es env (kMv F Q) := by
  rw [wR_call T f es env Q _ h]
  unfold wEs
  refine congrArg _ (funext fun r => congrArg _ ?_)
  cases r with
  | exc c e => rfl
  | ok vs e =>
    cases vs with
    | nil => simp [callF, wO, kMv]
    | cons v vs =>
      cases v with
      | sl i =>
        rw [kMv_sl]
        simp only [callF]
        cases h1 : e[i]? with
        | none => simp [wO, kMv2, kMc, h1]
        | some o =>
          cases o with
          | none => simp [wO, kMv2, kMc, h1]
          | some c =>
            cases h2 : hasSl vs with
            | true => simp [wO]
            | false =>
              cases resL e vs with
              | none => simp [wO]
              | some ds =>
                simp only [wO_some, true_and, kMv2, kMc, h1]
                cases h3 : isVal c with
                | true => simp [wO]
                | false =>
                  simp only [Bool.false_eq_true, if_false, true_and]
                  cases F c ds with
                  | none => simp [wO]
                  | some r => cases r <;> simp [wO, kM]
      | _ => simp [callF, wO, kMv]
theorem wO_of {α : Type} {o : Option α} {a : α} {K : α → Prop} (h : o = some a) (k : K a) : wO o K := ⟨a, h, k⟩
/-- a pick -/
theorem pick_w {T : Fx} {n : Nat} {ms : List Int} {at_ many : Int} {i : Nat} {e : Env} {Q : Res → Prop} (hp : Pool ms) (h0 : 0 ≤ at_) (h1 : at_ < 1000000000) (hm : 0 < many)
    (k : ∀ r, 0 ≤ r → r < many → Q (.ok (.d (.int r)) (e.set i (some (poolC ms (at_ + 1)))))) : wO (runM T n 4 sPick (poolC ms at_) [.int many]) (kM i e Q) := by
  obtain ⟨r, a, b, c⟩ := pick_ok T n ms at_ many hp h0 h1 hm
  exact wO_of a (k r b c)
theorem kVar_pool (i : Nat) (env : Env) (Q : Res → Prop) (ms : List Int) (a : Int) : kVar i env Q (some (some (poolC ms a))) = Q (.ok (.sl i) env) := rfl
theorem kP_pool (e e' : Env) (Q : Res → Prop) (ms : List Int) (a : Int) : kP e e' Q (.ok (poolC ms a)) = Q (.ok (.fr (poolC ms a)) e') := rfl
theorem flat_ints (xs : List Int) : (xs.map PyData.int).all flatD = true := by
  induction xs with
  | nil => rfl
  | cons x xs ih => simpa [flatD] using ih
theorem inD_ints (x : Int) (xs : List Int) : inD (.int x) (xs.map PyData.int) = decide (x ∈ xs) := by
  unfold inD
  induction xs with
  | nil => simp
  | cons y xs ih =>
    rw [List.map_cons, List.any_cons, ih, eqv_int]
    by_cases h : y = x
    · subst h; simp
    · have h2 : ¬ x = y := fun z => h z.symm
      simp [h, h2]
theorem atI_ints {xs : List Int} {i : Int} (h0 : 0 ≤ i) (h1 : i < xs.length) : L2.atI (xs.map PyData.int) i = some (.int (xs.getD i.toNat 0)) := by
  obtain ⟨k, rfl⟩ : ∃ k : Nat, i = k := ⟨i.toNat, by omega⟩
  have hk : k < xs.length := by omega
  refine L2.atI_nat (j := k) ?_
  rw [List.getElem?_map, List.getElem?_eq_getElem hk]
  simp [List.getD_eq_getElem?_getD, List.getElem?_eq_getElem hk]
theorem idxD_ints (x : Int) (xs : List Int) (h : x ∈ xs) : idxD (.int x) (xs.map PyData.int) = some (xs.idxOf x) := by
  unfold idxD
  induction xs with
  | nil => cases h
  | cons y xs ih =>
    rw [List.map_cons, List.findIdx?_cons, eqv_int, List.idxOf_cons]
    by_cases h2 : y = x
    · subst h2; simp
    · have h3 : x ∈ xs := by
        rcases List.mem_cons.mp h with z | z
        · exact absurd z.symm h2
        · exact z
      rw [ih h3]
      have h4 : (y == x) = false := by simpa using h2
      simp [h2, h4]
theorem shp_nil : shp (.list []) = true := by simpa using shp_ints []
theorem eqv_ints_nil (xs : List Int) : PyData.eqv (.list (xs.map PyData.int)) (.list []) = decide (xs = []) := by simpa using eqv_ints xs []
theorem eqv_list_refl_ints (xs : List Int) : PyData.eqv (.list (xs.map PyData.int)) (.list (xs.map PyData.int)) = true := by rw [eqv_ints]; simp
def maxL : List Int → Int
  | [] => 0
  | n :: ns => ns.foldl max n
theorem maxL_spec {l : List Int} (h : l ≠ []) : maxL l ∈ l ∧ ∀ y ∈ l, y ≤ maxL l := by
  cases l with
  | nil => exact absurd rfl h
  | cons n ns => exact foldl_max_mem ns n
theorem biMax_ints {l : List Int} (h : l ≠ []) : biMax [.list (l.map PyData.int)] = some (.d (.int (maxL l))) := by
  cases l with
  | nil => exact absurd rfl h
  | cons n ns =>
    simp only [biMax, intsD_map, dVal, maxL]
def pres : Out → Option PRes
  | .rt (.d d) _ => some (.ok (.val d))
  | .rt (.fr c) _ => some (.ok c)
  | .rt (.sl i) env => (match env[i]? with
    | some (some c) => some (.ok c)
    | _ => none)
  | .nx _ => some (.ok (.val .none))
  | .exc c _ => some (.exc c)
  | _ => none
theorem pres_d (d : D) (e : Env) : pres (.rt (.d d) e) = some (.ok (.val d)) := rfl
theorem pres_fr (c : Cell) (e : Env) : pres (.rt (.fr c) e) = some (.ok c) := rfl
theorem pres_sl (i : Nat) (e : Env) : pres (.rt (.sl i) e) = (match e[i]? with
    | some (some c) => some (.ok c)
    | _ => none) := rfl
theorem pres_nx (e : Env) : pres (.nx e) = some (.ok (.val .none)) := rfl
theorem pres_exc (c : Str) (e : Env) : pres (.exc c e) = some (.exc c) := rfl
/-- a def's run, what is known of its answer -/
theorem runP_ex {T : Fx} {n m : Nat} {s : S} {ds : List D} {P : PRes → Prop} (h : wS T n s (initE m (ds.map .val)) fun o => wO (pres o) P) : ∃ r, runP T n m s ds = some r ∧ P r := by
  obtain ⟨o, h1, r, h2, h3⟩ := h
  refine ⟨r, ?_, h3⟩
  unfold runP
  rw [h1]
  cases o with
  | rt v e => cases v <;> exact h2
  | _ => exact h2
theorem okS_l {T : Fx} (h : T.lock0 = false) (i : Nat) : okS T i = true := by simp [okS, h]
theorem isVal_pool (ms : List Int) (a : Int) : isVal (poolC ms a) = false := rfl
theorem isVal_lst (xs : List D) : isVal (.lst xs) = false := rfl
theorem isVal_dic (xs : List (Key × D)) : isVal (.dic xs) = false := rfl
theorem isVal_val (d : D) : isVal (.val d) = true := rfl
theorem any_deck_w {T T' : Fx} {n n' : Nat} (hT : T.fns "_law_pick" = some (.mt (runM T' n' 4 sPick))) {ms : List Int} {at_ : Int} {i : Nat} {e : Env} {Q : Res → Prop} (hp : Pool ms) (h0 : 0 ≤ at_) (h1 : at_ < 10000000)
    (k : ∀ a b : Nat, 1 ≤ a → a ≤ 4 → 1 ≤ b → b ≤ 13 → Q (.ok (.d (.tuple [.int a, .int b])) (e.set i (some (poolC ms (at_ + 1 + 1)))))) : wO (runM T n 1 sAnyDeck (poolC ms at_) []) (kM i e Q) := by
  obtain ⟨a, b, a1, a2, b1, b2, h⟩ := any_deck_ok T T' n n' hT ms at_ hp h0 h1
  exact wO_of h (k a b a1 a2 b1 b2)
/-! ### dicts -/
def look (kvs : List (Key × D)) (k : Key) : Option D := (kvs.find? fun p => decide (p.1 = k)).map (·.2)
theorem look_nil (k : Key) : look [] k = none := rfl
theorem look_put (kvs : List (Key × D)) (k k' : Key) (v : D) : look (putD kvs k v) k' = if k' = k then some v else look kvs k' := by
  have any_look : ∀ kvs : List (Key × D), (kvs.any fun p => decide (p.1 = k)) = (look kvs k).isSome := fun kvs => by
    unfold look
    induction kvs with
    | nil => rfl
    | cons p r ih =>
      by_cases h : p.1 = k
      · simp [h]
      · rw [List.any_cons, ih, List.find?_cons_of_neg (by simpa using h)]
        simp [h]
  have map_look : ∀ kvs : List (Key × D), look (kvs.map fun p => if p.1 = k then (p.1, v) else p) k' = (look kvs k').map fun x => if k' = k then v else x := fun kvs => by
    unfold look
    induction kvs with
    | nil => rfl
    | cons p r ih =>
      rw [List.map_cons]
      have e1 : (if p.1 = k then (p.1, v) else p).1 = p.1 := by split <;> rfl
      by_cases h : p.1 = k'
      · rw [List.find?_cons_of_pos (by rw [e1]; simpa using h), List.find?_cons_of_pos (by simpa using h)]
        by_cases h2 : k' = k
        · have h3 : p.1 = k := h.trans h2
          simp [h2, h3]
        · have h3 : ¬ p.1 = k := fun z => h2 (h.symm.trans z)
          simp [h2, h3]
      · rw [List.find?_cons_of_neg (by rw [e1]; simpa using h), List.find?_cons_of_neg (by simpa using h)]
        exact ih
  have snoc_look : ∀ kvs : List (Key × D), look (kvs ++ [(k, v)]) k' = match look kvs k' with
      | some x => some x
      | none => if k = k' then some v else none := fun kvs => by
    unfold look
    rw [List.find?_append]
    cases h : kvs.find? fun p => decide (p.1 = k') with
    | some p => simp
    | none => by_cases h2 : k = k' <;> simp [h2]
  unfold putD
  rw [any_look]
  cases h : look kvs k with
  | some x =>
    simp only [Option.isSome_some, if_true]
    rw [map_look]
    by_cases h2 : k' = k
    · subst h2; simp [h]
    · simp [h2]
  | none =>
    simp only [Option.isSome_none, Bool.false_eq_true, if_false]
    rw [snoc_look]
    by_cases h2 : k' = k
    · subst h2; simp [h]
    · have h3 : ¬ k = k' := fun z => h2 z.symm
      simp only [h2, h3, if_false]
      cases look kvs k' <;> rfl
theorem length_putD (kvs : List (Key × D)) (k : Key) (v : D) : (putD kvs k v).length ≤ kvs.length + 1 := by
  unfold putD
  split <;> simp
theorem look_find (kvs : List (Key × D)) (k : Key) : ((kvs.map fun p => (keyD p.1, p.2)).find? fun p => decide (keyOf p.1 = some k)).map (·.2) = look kvs k := by
  rw [dict_find]
  unfold look
  cases kvs.find? fun p => decide (p.1 = k) <;> rfl
theorem dgD_i (kvs : List (Key × D)) (i : Int) (d : D) : dgD (.dict (kvs.map fun p => (keyD p.1, p.2))) (.int i) d = some ((look kvs (.inl i)).getD d) := by
  unfold dgD
  simp only [flOf_keys]
  exact congrArg (fun o => some (Option.getD o d)) (look_find kvs (.inl i))
theorem dgD_s (kvs : List (Key × D)) (i : Str) (d : D) : dgD (.dict (kvs.map fun p => (keyD p.1, p.2))) (.str i) d = some ((look kvs (.inr i)).getD d) := by
  unfold dgD
  simp only [flOf_keys]
  exact congrArg (fun o => some (Option.getD o d)) (look_find kvs (.inr i))
theorem ixD_di (kvs : List (Key × D)) (i : Int) : ixD (.dict (kvs.map fun p => (keyD p.1, p.2))) (.int i) = look kvs (.inl i) := by
  unfold ixD
  simp only [flOf_keys]
  exact look_find kvs (.inl i)
theorem ixD_ds (kvs : List (Key × D)) (i : Str) : ixD (.dict (kvs.map fun p => (keyD p.1, p.2))) (.str i) = look kvs (.inr i) := by
  unfold ixD
  simp only [flOf_keys]
  exact look_find kvs (.inr i)
theorem isDct_k (kvs : List (Key × D)) : isDct (.dict (kvs.map fun p => (keyD p.1, p.2))) = true := by
  simp only [isDct, flOf_keys, Option.isNone_none]
theorem dsD_i (kvs : List (Key × D)) (i : Int) (d : D) (h : kvs.length < line) : dsD kvs (.int i) d = some ((look kvs (.inl i)).getD d, if (look kvs (.inl i)).isSome then kvs else putD kvs (.inl i) d) := by
  unfold dsD look
  simp only [keyOf, h, if_true]
  cases kvs.find? fun p => decide (p.1 = Sum.inl i) <;> rfl
theorem setC_di (kvs : List (Key × D)) (i : Int) (d : D) : setC (.dic kvs) (.int i) d = if kvs.length < line then some (.dic (putD kvs (.inl i) d)) else none := rfl
theorem setC_ds (kvs : List (Key × D)) (i : Str) (d : D) : setC (.dic kvs) (.str i) d = if kvs.length < line then some (.dic (putD kvs (.inr i) d)) else none := rfl
theorem setC_l (xs : List D) (i : Int) (d : D) : setC (.lst xs) (.int i) d = match ixN xs.length i with
    | some j => some (.lst (xs.set j d))
    | none => none := rfl
theorem ixD_l (xs : List D) (i : Int) : ixD (.list xs) (.int i) = L2.atI xs i := rfl
theorem ixD_t (xs : List D) (i : Int) : ixD (.tuple xs) (.int i) = L2.atI xs i := rfl
theorem sortI_perm (ns : List Int) : (sortI ns).Perm ns := List.mergeSort_perm ns _
theorem sortI_sorted (ns : List Int) : (sortI ns).Pairwise (· ≤ ·) := by
  have := List.pairwise_mergeSort (le := fun a b : Int => decide (a ≤ b)) (fun a b c h1 h2 => by simp at *; omega) (fun a b => by simp; omega) ns
  exact this.imp (by simp)
/-! ### operations by kinds -/
theorem binD_ii (op : Operator) (i j : Int) : binD op (.int i) (.int j) = binI op i j := rfl
theorem binD_ss (a b : Str) : binD .Add (.str a) (.str b) = if a.length + b.length ≤ line then some (.d (.str (a ++ b))) else none := rfl
theorem binD_ll (a b : List D) : binD .Add (.list a) (.list b) = if a.length + b.length ≤ line then some (.fr (.lst (a ++ b))) else none := rfl
theorem binD_li (a : List D) (k : Int) : binD .Mult (.list a) (.int k) = if decide (-(2 ^ 63) ≤ k ∧ k < 2 ^ 63 ∧ a.length * k.toNat ≤ line) = true then some (.fr (.lst (List.replicate k.toNat a).flatten)) else none := rfl
theorem cmpD_eq (x y : D) : cmpD .Eq x y = if (shp x && shp y) = true then some (PyData.eqv x y) else none := rfl
theorem cmpD_ne (x y : D) : cmpD .NotEq x y = if (shp x && shp y) = true then some (!PyData.eqv x y) else none := rfl
theorem cmpD_lt (i j : Int) : cmpD .Lt (.int i) (.int j) = some (decide (i < j)) := rfl
theorem cmpD_le (i j : Int) : cmpD .LtE (.int i) (.int j) = some (decide (i ≤ j)) := rfl
theorem cmpD_gt (i j : Int) : cmpD .Gt (.int i) (.int j) = some (decide (j < i)) := rfl
theorem cmpD_ge (i j : Int) : cmpD .GtE (.int i) (.int j) = some (decide (j ≤ i)) := rfl
theorem cmpD_is (x : D) : cmpD .Is x .none = some (isND x) := rfl
theorem cmpD_isnot (x : D) : cmpD .IsNot x .none = some (!isND x) := rfl
theorem cmpD_inl (x : D) (ds : List D) : cmpD .In x (.list ds) = if (flatD x && ds.all flatD) = true then some (inD x ds) else none := rfl
theorem cmpD_int (x : D) (ds : List D) : cmpD .In x (.tuple ds) = if (flatD x && ds.all flatD) = true then some (inD x ds) else none := rfl
theorem cmpD_nil (x : D) (ds : List D) : cmpD .NotIn x (.list ds) = if (flatD x && ds.all flatD) = true then some (!inD x ds) else none := rfl
theorem cmpD_nit (x : D) (ds : List D) : cmpD .NotIn x (.tuple ds) = if (flatD x && ds.all flatD) = true then some (!inD x ds) else none := rfl
theorem unD_neg (i : Int) : unD .USub (.int i) = some (.d (.int (-i))) := rfl
theorem unD_inv (i : Int) : unD .Invert (.int i) = some (.d (.int (Builtin.bitNot i))) := rfl
theorem isND_none : isND .none = true := rfl
theorem isND_int (i : Int) : isND (.int i) = false := rfl
theorem isND_list (i : List D) : isND (.list i) = false := rfl
theorem isND_tuple (i : List D) : isND (.tuple i) = false := rfl
theorem revD_l (xs : List D) : revD (.list xs) = some (.fr (.lst xs.reverse)) := rfl
theorem rev_map {α β : Type} (f : α → β) (l : List α) : (l.map f).reverse = l.reverse.map f := List.map_reverse.symm
theorem back_val (d : D) : back (some (.val d)) = some (.val d) := rfl
theorem back_none : back none = none := rfl
theorem filter_tt {α : Type} (l : List α) : l.filter (fun _ => true) = l := List.filter_eq_self.mpr fun _ _ => rfl
theorem mulOk_eq (i j : Int) : (mulOk i j = true) = ((-18446744073709551616 < i ∧ i < 18446744073709551616) ∨ (-18446744073709551616 < j ∧ j < 18446744073709551616)) := by
  unfold mulOk
  rw [decide_eq_true_eq]
  rfl
theorem powOk_eq (i j : Int) : (powOk i j = true) = (0 ≤ j ∧ j ≤ 1000000 ∧ i.natAbs < 18446744073709551616) := by
  unfold powOk
  rw [decide_eq_true_eq]
theorem rngL_0 (a : Int) : rngL a a = [] := by simp [rngL]
theorem rngL_s (a : Int) (k : Nat) : rngL a (a + ((k + 1 : Nat) : Int)) = .int a :: rngL (a + 1) (a + 1 + (k : Int)) := by
  unfold rngL
  have e1 : (a + ((k + 1 : Nat) : Int) - a).toNat = k + 1 := by omega
  have e2 : (a + 1 + (k : Int) - (a + 1)).toNat = k := by omega
  rw [e1, e2, List.range_succ_eq_map, List.map_cons, List.map_map]
  congr 1
  · simp
  · apply List.map_congr_left
    intro x _
    simp only [Function.comp]
    congr 1
    omega
end Fin
namespace K27
open PySem PySem.Spec PyProof.Rows L2 Fin
def topS (i : Nat) : Stmt := PySem.Challenge.pw_finesse_k27_boards_compared.main.body.getD i (.Pass ⟨0, 0, 0, 0⟩)
abbrev cons : List Str := []
abbrev excs : List Str := []
def hd : Hd := ⟨[], excs, [], [("_law_numbers", topS 4), ("_law_pool", topS 5), ("_law_pick", topS 6), ("_law_is_integer", topS 3), ("_law_int", topS 7), ("_law_ints", topS 8), ("compared", topS 1), ("law", topS 9)]⟩
/-- turns that a while loop may take -/
def fuel : Nat := 100000
/-! _law_numbers -/
abbrev s_law_numbers : S := sNumbers
theorem sc_law_numbers : FnScope ["script", "first", "most", "found", "at", "cell", "k", "mixed"] ["script", "first", "most"] (defScope (topS 4)) := ⟨rfl, rfl, rfl, by decide +kernel, rfl, by decide +kernel, by decide +kernel⟩
theorem re_law_numbers : reSs ⟨["script", "first", "most", "found", "at", "cell", "k", "mixed"], defScope (topS 4), [], cons, excs⟩ true 60 (defBody (topS 4)) = some s_law_numbers := by rfl
abbrev h_law_numbers : Fx := hd.fx
def fx_law_numbers : Fx := hd.fx.pure "_law_numbers" fuel 8 s_law_numbers
/-! _law_pool -/
abbrev s_law_pool : S := sPool
theorem sc_law_pool : FnScope ["script"] ["script"] (defScope (topS 5)) := ⟨rfl, rfl, rfl, by decide +kernel, rfl, by decide +kernel, by decide +kernel⟩
theorem re_law_pool : reSs ⟨["script"], defScope (topS 5), [("_law_numbers", 3)], cons, excs⟩ true 60 (defBody (topS 5)) = some s_law_pool := by rfl
abbrev h_law_pool : Fx := fx_law_numbers
theorem l_law_pool_law_numbers : Fx.fns h_law_pool "_law_numbers" = some (.pure (runP h_law_numbers fuel 8 s_law_numbers)) := rfl
def fx_law_pool : Fx := fx_law_numbers.pure "_law_pool" fuel 1 s_law_pool
/-! _law_pick -/
abbrev s_law_pick : S := sPick
theorem sc_law_pick : FnScope ["pool", "many", "at", "turn"] ["pool", "many"] (defScope (topS 6)) := ⟨rfl, rfl, rfl, by decide +kernel, rfl, by decide +kernel, by decide +kernel⟩
theorem re_law_pick : reSs ⟨["pool", "many", "at", "turn"], defScope (topS 6), [("_law_pool", 1), ("_law_numbers", 3)], cons, excs⟩ true 60 (defBody (topS 6)) = some s_law_pick := by rfl
abbrev h_law_pick : Fx := fx_law_pool
def fx_law_pick : Fx := fx_law_pool.mut "_law_pick" fuel 4 s_law_pick
/-! _law_is_integer -/
abbrev s_law_is_integer : S := sIsInt
theorem sc_law_is_integer : FnScope ["actual"] ["actual"] (defScope (topS 3)) := ⟨rfl, rfl, rfl, by decide +kernel, rfl, by decide +kernel, by decide +kernel⟩
theorem re_law_is_integer : reSs ⟨["actual"], defScope (topS 3), [("_law_pick", 2), ("_law_pool", 1), ("_law_numbers", 3)], cons, excs⟩ true 60 (defBody (topS 3)) = some s_law_is_integer := by rfl
abbrev h_law_is_integer : Fx := fx_law_pick
def fx_law_is_integer : Fx := fx_law_pick.pure "_law_is_integer" fuel 1 s_law_is_integer
/-! _law_int -/
abbrev s_law_int : S := sInt
theorem sc_law_int : FnScope ["actual", "due"] ["actual", "due"] (defScope (topS 7)) := ⟨rfl, rfl, rfl, by decide +kernel, rfl, by decide +kernel, by decide +kernel⟩
theorem re_law_int : reSs ⟨["actual", "due"], defScope (topS 7), [("_law_is_integer", 1), ("_law_pick", 2), ("_law_pool", 1), ("_law_numbers", 3)], cons, excs⟩ true 60 (defBody (topS 7)) = some s_law_int := by rfl
abbrev h_law_int : Fx := fx_law_is_integer
theorem l_law_int_law_is_integer : Fx.fns h_law_int "_law_is_integer" = some (.pure (runP h_law_is_integer fuel 1 s_law_is_integer)) := rfl
def fx_law_int : Fx := fx_law_is_integer.pure "_law_int" fuel 2 s_law_int
/-! _law_ints -/
abbrev s_law_ints : S := sInts
theorem sc_law_ints : FnScope ["actual", "due", "k"] ["actual", "due"] (defScope (topS 8)) := ⟨rfl, rfl, rfl, by decide +kernel, rfl, by decide +kernel, by decide +kernel⟩
theorem re_law_ints : reSs ⟨["actual", "due", "k"], defScope (topS 8), [("_law_int", 2), ("_law_is_integer", 1), ("_law_pick", 2), ("_law_pool", 1), ("_law_numbers", 3)], cons, excs⟩ true 60 (defBody (topS 8)) = some s_law_ints := by rfl
abbrev h_law_ints : Fx := fx_law_int
theorem l_law_ints_law_int : Fx.fns h_law_ints "_law_int" = some (.pure (runP h_law_int fuel 2 s_law_int)) := rfl
def fx_law_ints : Fx := fx_law_int.pure "_law_ints" fuel 3 s_law_ints
/-! compared -/
def b1_compared : S := (.seq (.expr (.dset 1 (.var 4) (.var 3))) (.setIx 2 (.var 4) (.bin .Add (.dget (.var 2) (.var 4) (.c (.int 0))) (.c (.int 1)))))
def f1_compared : S := (.for_ (.many [3, 4]) (.enum (.bi .sorted (.cons (.var 0) .nil))) b1_compared)
def x1_compared : E := (.bin .Sub (.bin .Add (.bin .Mult (.c (.int 2)) (.ix (.var 1) (.var 4))) (.ix (.var 2) (.var 4))) (.c (.int 1)))
def t1_compared : Te := (.val (.c (.bool true)))
def c1_compared : E := (.comp x1_compared 4 (.seq (.var 0)) t1_compared)
def s_compared : S := (.seq (.set 1 .dic0) (.seq (.set 2 .dic0) (.seq f1_compared (.ret c1_compared))))
theorem sc_compared : FnScope ["scores", "first_places", "counts", "place", "points"] ["scores"] (defScope (topS 1)) := ⟨rfl, rfl, rfl, by decide +kernel, rfl, by decide +kernel, by decide +kernel⟩
theorem re_compared : reSs ⟨["scores", "first_places", "counts", "place", "points"], defScope (topS 1), [("_law_ints", 2), ("_law_int", 2), ("_law_is_integer", 1), ("_law_pick", 2), ("_law_pool", 1), ("_law_numbers", 3)], cons, excs⟩ true 60 (defBody (topS 1)) = some s_compared := by rfl
abbrev h_compared : Fx := fx_law_ints
def fx_compared : Fx := fx_law_ints.pure "compared" fuel 5 s_compared
/-! law -/
def x1_law : E := (.bin .Mult (.bin .Mult (.c (.int 10)) (.bin .Sub (.call "_law_pick" (.cons (.var 1) (.cons (.c (.int 9)) .nil))) (.c (.int 4)))) (.ix (.lst (.cons (.c (.int 1)) (.cons (.c (.int 1)) (.cons (.c (.int 1000000)) .nil)))) (.call "_law_pick" (.cons (.var 1) (.cons (.c (.int 3)) .nil)))))
def t1_law : Te := (.val (.c (.bool true)))
def c1_law : E := (.comp x1_law 4 (.rng (.cons (.var 3) .nil)) t1_law)
def b1_law : S := (.ite (.val (.cmp .NotEq (.var 8) (.var 4))) (.set 7 (.bin .Add (.var 7) (.ix (.lst (.cons (.c (.int 0)) (.cons (.c (.int 1)) (.cons (.c (.int 2)) .nil)))) (.bin .Add (.bi .int (.cons (.cmp .LtE (.ix (.var 5) (.var 8)) (.ix (.var 5) (.var 4))) .nil)) (.bi .int (.cons (.cmp .Lt (.ix (.var 5) (.var 8)) (.ix (.var 5) (.var 4))) .nil)))))) .pass)
def f1_law : S := (.for_ (.one 8) (.rng (.cons (.var 3) .nil)) b1_law)
def b2_law : S := (.seq (.set 7 (.c (.int 0))) (.seq f1_law (.expr (.mm .append 6 (.cons (.var 7) .nil)))))
def f2_law : S := (.for_ (.one 4) (.rng (.cons (.var 3) .nil)) b2_law)
def b3_law : S := (.seq f2_law (.seq (.set 9 (.bi .list (.cons (.var 5) .nil))) (.seq (.ite (.or (.not (.val (.call "_law_ints" (.cons (.call "compared" (.cons (.var 9) .nil)) (.cons (.var 6) .nil))))) (.or (.val (.cmp .NotEq (.var 9) (.var 5))) (.val (.cmp .NotEq (.bi .sum (.cons (.var 6) .nil)) (.bin .Mult (.var 3) (.bin .Sub (.var 3) (.c (.int 1)))))))) (.ret (.c (.bool false))) .pass) (.ite (.val (.cmp .NotEq (.call "compared" (.cons (.rev (.var 5)) .nil)) (.rev (.var 6)))) (.ret (.c (.bool false))) .pass))))
def b4_law : S := (.seq (.set 3 (.bin .Add (.c (.int 1)) (.call "_law_pick" (.cons (.var 1) (.cons (.c (.int 9)) .nil))))) (.seq (.set 5 c1_law) (.seq (.set 6 (.lst .nil)) b3_law)))
def f3_law : S := (.for_ (.one 2) (.rng (.cons (.c (.int 5)) .nil)) b4_law)
def s_law : S := (.seq (.set 1 (.call "_law_pool" (.cons (.var 0) .nil))) (.seq f3_law (.ret (.c (.bool true)))))
theorem sc_law : FnScope ["script", "pool", "turn", "many", "k", "scores", "due", "total", "j", "handed"] ["script"] (defScope (topS 9)) := ⟨rfl, rfl, rfl, by decide +kernel, rfl, by decide +kernel, by decide +kernel⟩
theorem re_law : reSs ⟨["script", "pool", "turn", "many", "k", "scores", "due", "total", "j", "handed"], defScope (topS 9), [("compared", 1), ("_law_ints", 2), ("_law_int", 2), ("_law_is_integer", 1), ("_law_pick", 2), ("_law_pool", 1), ("_law_numbers", 3)], cons, excs⟩ true 60 (defBody (topS 9)) = some s_law := by rfl
abbrev h_law : Fx := fx_compared
theorem l_law_law_pool : Fx.fns h_law "_law_pool" = some (.pure (runP h_law_pool fuel 1 s_law_pool)) := rfl
theorem l_law_law_pick : Fx.fns h_law "_law_pick" = some (.mt (runM h_law_pick fuel 4 s_law_pick)) := rfl
theorem l_law_law_ints : Fx.fns h_law "_law_ints" = some (.pure (runP h_law_ints fuel 3 s_law_ints)) := rfl
theorem l_law_compared : Fx.fns h_law "compared" = some (.pure (runP h_compared fuel 5 s_compared)) := rfl
abbrev fxL : Fx := fx_compared
/-! the hand part of k27 -/
/-- 2 for a smaller score, 1 for an equal one -/
def wgt (y p : Int) : Int := if y < p then 2 else if y = p then 1 else 0
def wsum (xs : List Int) (p : Int) : Int := (xs.map fun y => wgt y p).sum
theorem wsum_perm {xs ys : List Int} (h : xs.Perm ys) (p : Int) : wsum xs p = wsum ys p := by
  induction h with
  | nil => rfl
  | cons x _ ih => rw [show ∀ l, wsum (x :: l) p = wgt x p + wsum l p from fun l => by simp [wsum], show ∀ l, wsum (x :: l) p = wgt x p + wsum l p from fun l => by simp [wsum], ih]
  | swap x y l => simp [wsum]; omega
  | trans _ _ h1 h2 => exact h1.trans h2
theorem wsum_cons (y : Int) (xs : List Int) (p : Int) : wsum (y :: xs) p = wgt y p + wsum xs p := by simp [wsum]
theorem sorted_first : ∀ {S : List Int} {p : Int}, S.Pairwise (· ≤ ·) → p ∈ S → 2 * ((S.idxOf p : Nat) : Int) + ((S.count p : Nat) : Int) = wsum S p
  | [], p, _, h => by cases h
  | y :: t, p, hs, h => by
    rw [List.pairwise_cons] at hs
    rw [wsum_cons, List.idxOf_cons, List.count_cons]
    by_cases e : y = p
    · subst e
      have hrest : ∀ {t : List Int}, (∀ a ∈ t, y ≤ a) → ((t.count y : Nat) : Int) = wsum t y := fun {t} => by
        induction t with
        | nil => intro _; rfl
        | cons a t ih =>
          intro ha
          rw [List.count_cons, wsum_cons, ← ih fun b hb => ha b (List.mem_cons_of_mem _ hb)]
          have := ha a List.mem_cons_self
          by_cases q : a = y
          · subst q; simp [wgt]; omega
          · have q2 : (a == y) = false := by simpa using q
            have q3 : ¬ a < y := by omega
            simp [wgt, q, q2, q3]
      have := hrest hs.1
      simp [wgt]
      omega
    · have hp : p ∈ t := by
        rcases List.mem_cons.mp h with z | z
        · exact absurd z.symm e
        · exact z
      have hlt : y < p := by have := hs.1 p hp; omega
      have ih := sorted_first hs.2 hp
      have q2 : (y == p) = false := by simpa using e
      simp only [q2, Bool.false_eq_true, if_false, cond_false, Nat.add_zero]
      have : wgt y p = 2 := by simp [wgt, hlt]
      omega
theorem sum_pairs : ∀ xs : List Int, (xs.map fun p => wsum xs p).sum = (xs.length : Int) * xs.length
  | [] => rfl
  | x :: xs => by
    have ih := sum_pairs xs
    have h1 : ∀ ys : List Int, (ys.map fun p => wsum (x :: xs) p).sum = (ys.map fun p => wgt x p).sum + (ys.map fun p => wsum xs p).sum := fun ys => by
      induction ys with
      | nil => rfl
      | cons y ys ih => 
        have e : (ys.map fun p => wsum (x :: xs) p) = ys.map fun p => wgt x p + wsum xs p := List.map_congr_left fun p _ => wsum_cons x xs p
        rw [e] at ih
        simp only [List.map_cons, List.sum_cons, wsum_cons]
        omega
    have h2 : ∀ ys : List Int, (ys.map fun p => wgt x p).sum + wsum ys x = 2 * (ys.length : Int) := fun ys => by
      induction ys with
      | nil => rfl
      | cons y ys ih =>
        simp only [List.map_cons, List.sum_cons, wsum_cons, List.length_cons]
        have : wgt x y + wgt y x = 2 := by
          unfold wgt
          split <;> split <;> (try split) <;> (try split) <;> omega
        push_cast
        omega
    rw [List.map_cons, List.sum_cons, h1 xs, ih, wsum_cons, List.length_cons]
    have h3 := h2 xs
    have h4 : wgt x x = 1 := by simp [wgt]
    push_cast
    have h5 : ((xs.length : Int) + 1) * ((xs.length : Int) + 1) = (xs.length : Int) * xs.length + 2 * xs.length + 1 := by
      rw [Int.add_mul, Int.mul_add]; omega
    rw [h5]
    omega
/-- what compared gives -/
def cmpd (xs : List Int) : List Int := xs.map fun p => wsum xs p - 1
theorem cmpd_sum (xs : List Int) : (cmpd xs).sum = (xs.length : Int) * (xs.length - 1) := by
  have h : ∀ ys : List Int, (ys.map fun p => wsum xs p - 1).sum = (ys.map fun p => wsum xs p).sum - ys.length := fun ys => by
    induction ys with
    | nil => rfl
    | cons y ys ih => simp only [List.map_cons, List.sum_cons, ih, List.length_cons]; push_cast; omega
  unfold cmpd
  rw [h, sum_pairs, Int.mul_sub, Int.mul_one]
theorem cmpd_rev (xs : List Int) : cmpd xs.reverse = (cmpd xs).reverse := by
  unfold cmpd
  rw [← List.map_reverse]
  exact List.map_congr_left fun p _ => by rw [wsum_perm (List.reverse_perm xs)]
theorem idxOf_new : ∀ {S : List Int} {j : Nat} (hj : j < S.length), S[j] ∉ S.take j → S.idxOf S[j] = j
  | [], _, h, _ => by simp at h
  | y :: t, 0, _, _ => by simp
  | y :: t, j + 1, h, hn => by
    have hj : j < t.length := by simpa using h
    simp only [List.take_succ_cons, List.mem_cons, not_or, List.getElem_cons_succ] at hn
    have ih := idxOf_new (S := t) (j := j) (by simpa using h) hn.2
    have h2 : (y == t[j]) = false := by
      have : ¬ y = t[j] := fun z => hn.1 z.symm
      simpa using this
    rw [List.getElem_cons_succ, List.idxOf_cons, h2, ih]
    rfl
theorem compared_ok (n : Nat) (xs : List Int) (hl : xs.length ≤ 1000) : runP fx_law_ints n 5 s_compared [.list (xs.map .int)] = some (.ok (.lst ((cmpd xs).map .int))) := by
  have hperm := sortI_perm xs
  have hsort := sortI_sorted xs
  have hlen : (sortI xs).length = xs.length := hperm.length_eq
  generalize hS : sortI xs = S at *
  refine runP_w ?_
  unfold s_compared f1_compared
  simp only [Fin.wO_some, Fin.wO_none, Fin.wO_if, Fin.wO_map, Fin.wE_eq, Fin.kO_d, Fin.kO_sl, Fin.kO_lst, Fin.kO_exc, Fin.wR_var, Fin.kVar_val, Fin.kVar_lst, Fin.kVar_dic, Fin.kVar_exc, Fin.kVar_pool, Fin.pres_d, Fin.pres_fr, Fin.pres_sl, Fin.pres_nx, Fin.pres_exc, Fin.kP_pool, Fin.flatD, Fin.flat_ints, Fin.inD_ints, Fin.shp_ints, Fin.shp_nil, Fin.eqv_ints, Fin.eqv_ints_nil, Fin.b2D, Fin.wR_int, Fin.wR_str, Fin.wR_bool, Fin.wR_none, Fin.wR_glob, Fin.kRd0_eq, Fin.w2_bin, Fin.w2_cmp, Fin.w2_ix, Fin.w2_b2, Fin.kO4_eq, Fin.kO3_eq, Fin.kO2_ok, Fin.kO2_exc, Fin.kO1_ok, Fin.kO1_exc, Fin.w1_un, Fin.w1_rev, Fin.w1_isi, Fin.w1_fb, Fin.kU2_eq, Fin.kU1_ok, Fin.kU1_exc, Fin.kH8_eq, Fin.kH7_eq, Fin.kH6_ok, Fin.kH6_exc, Fin.kH5_eq, Fin.kH4_eq, Fin.kH3_eq, Fin.kH2_ok, Fin.kH2_exc, Fin.kH1_ok, Fin.kH1_exc, Fin.wR_bin, Fin.wR_cmp, Fin.wR_ix, Fin.wR_chn, Fin.wR_un, Fin.wR_rev, Fin.wR_isi, Fin.wR_fb, Fin.wR_and, Fin.wR_or, Fin.wR_not, Fin.kAnd_b, Fin.kAnd_exc, Fin.kOr_b, Fin.kOr_exc, Fin.kNot_b, Fin.kNot_exc, Fin.kT_ok, Fin.kT_exc, Fin.kIte_ok, Fin.kIte_exc, Fin.kIteE_ok, Fin.kIteE_exc, Fin.kTand_ok, Fin.kTand_exc, Fin.kTor_ok, Fin.kTor_exc, Fin.kTnot_ok, Fin.kTnot_exc, Fin.kTv_ok, Fin.kTv_exc, Fin.kTb_b, Fin.kTb_i, Fin.kTb_l, Fin.kTb_t, Fin.kTb_n, Fin.kTb_s, Fin.kRv_eq, Fin.kRb_eq, Fin.kRd_eq, Fin.kCmp_eq, Fin.kCi_ok, Fin.kCi_exc, Fin.kFor_ok, Fin.kFor_exc, Fin.wR_ite, Fin.wT_val, Fin.wT_and, Fin.wT_or, Fin.wT_not, Fin.kTup3_eq, Fin.kTup2_eq, Fin.kTup_ok, Fin.kTup_exc, Fin.kLst3_eq, Fin.kLst2_eq, Fin.kLst_ok, Fin.kLst_exc, Fin.kBi2_eq, Fin.kBi_ok, Fin.kBi_exc, Fin.kBm3_eq, Fin.kBm2_ok, Fin.kBm2_exc, Fin.kBm1_eq, Fin.kBm_ok, Fin.kBm_exc, Fin.kMm4_eq, Fin.kMm3_lst, Fin.kMm2_eq, Fin.kMm1_eq, Fin.kMm_ok, Fin.kMm_exc, Fin.kSl4_eq, Fin.kSl3_eq, Fin.kSl2_eq, Fin.kSl1_ok, Fin.kSl1_exc, Fin.kB2_eq, Fin.kB1_ok, Fin.kB1_exc, Fin.kG7_eq, Fin.kG6_eq, Fin.kG5_eq, Fin.kG4_eq, Fin.kG3_ok, Fin.kG3_exc, Fin.kG2_ok, Fin.kG2_exc, Fin.kG1_eq, Fin.kG0_ok, Fin.kG0_exc, Fin.kD6_eq, Fin.kD5_eq, Fin.kD4_eq, Fin.kD3_eq, Fin.kD2_ok, Fin.kD2_exc, Fin.kD1_ok, Fin.kD1_exc, Fin.kC3_eq, Fin.kC2_eq, Fin.kC1_ok, Fin.kC1_exc, Fin.kMv2_eq, Fin.kMv_sl, Fin.kMv_exc, Fin.wEs_nil, Fin.kEs_ok, Fin.kEs_exc, Fin.kEc_ok, Fin.kEc_exc, Fin.wEs_cons, Fin.wR_tup, Fin.wR_lst, Fin.wR_bi, Fin.wR_bm, Fin.wR_mm, Fin.wR_sl, Fin.wSl_non, Fin.wSl_some, Fin.kSl_i, Fin.wR_dic0, Fin.kIsx_e, Fin.wR_isx, Fin.kP_val, Fin.kP_lst, Fin.kP_dic, Fin.kP_exc, Fin.kM_ok, Fin.kM_exc, Fin.kMc_c, Fin.isVal_pool, Fin.wR_comp, Fin.kI_ok, Fin.kI_exc, Fin.kIs_ok, Fin.kIs_exc, Fin.wI_seq, Fin.wI_rng, Fin.kRg_1, Fin.kRg_2, Fin.wS_seq, Fin.kSeq_nx, Fin.kSeq_rt, Fin.kSeq_exc, Fin.kSeq_bk, Fin.kSeq_ct, Fin.wS_pass, Fin.wS_brk, Fin.wS_cnt, Fin.wS_retN, Fin.wS_raise, Fin.kEx_ok, Fin.kEx_exc, Fin.wS_expr, Fin.kRet_ok, Fin.kRet_exc, Fin.wS_ret, Fin.kSet_d, Fin.kSet_fr, Fin.kSet_sl, Fin.kSet_exc, Fin.wS_set, Fin.kUnp_ok, Fin.kUnp_exc, Fin.wS_unp, Fin.kAug_ok, Fin.kAug_exc, Fin.kAugV_val, Fin.wS_aug, Fin.wS_ite, Fin.wS_for, Fin.wS_whl, Fin.kSx2_c, Fin.kSx1_d, Fin.kSx1_exc, Fin.kSx_ok, Fin.kSx_exc, Fin.wS_setIx, Fin.wS_tryx, Fin.wS_tryas, Fin.kTas_nx, Fin.kTas_rt, Fin.kTas_exc, Fin.kLp_nx, Fin.kLp_ct, Fin.kLp_bk, Fin.kLp_rt, Fin.kLp_exc, Fin.wBind_one, Fin.wBind_many, Fin.kV_d, Fin.wR_b2, Fin.wR_dget, Fin.kDs_dic, Fin.wR_dset, Fin.wR_lsI, Fin.kEn_ok, Fin.kEn_exc, Fin.wI_enum, Fin.kRev_ok, Fin.kRev_exc, Fin.wI_rev, Fin.kRr_1, Fin.wI_revr, Fin.kAx2_lst, Fin.kAx_ok, Fin.kAx1_lst, Fin.kAx0_i, Fin.b2T, Fin.isDic, Fin.flOf, Fin.biSorted, Fin.biSum, Fin.intsD_map, Fin.wBin, Fin.wCmp, Fin.binD_ii, Fin.binD_ss, Fin.binD_ll, Fin.binD_li, Fin.binI, Fin.dVal, Fin.mulOk_eq, Fin.powOk_eq, Fin.unD_neg, Fin.unD_inv, Fin.cmpD_eq, Fin.cmpD_ne, Fin.cmpD_lt, Fin.cmpD_le, Fin.cmpD_gt, Fin.cmpD_ge, Fin.cmpD_is, Fin.cmpD_isnot, Fin.cmpD_inl, Fin.cmpD_int, Fin.cmpD_nil, Fin.cmpD_nit, Fin.ixD_l, Fin.ixD_t, Fin.ixD_di, Fin.ixD_ds, Fin.dgD_i, Fin.dgD_s, Fin.isDct_k, Fin.atI_0, Fin.atI_1, Fin.atI_2, Fin.atI_3, Fin.biD, Fin.biLen, Fin.biInt, Fin.biAbs, Fin.biMin, Fin.biList, Fin.biTuple, Fin.isiD, Fin.mmD, Fin.mmAppend, Fin.isLst, Fin.isOwn, Fin.res, Fin.resL, Fin.frzS, Fin.hasSl, Fin.isVal_lst, Fin.isVal_dic, Fin.isVal_val, Fin.asVal, Fin.scalC, Fin.scalD, Fin.Cell.frz, Fin.setC_di, Fin.setC_ds, Fin.setC_l, Fin.bindL, List.length_map, Fin.initE, Fin.shp_int, Fin.shp_bool, Fin.shp_none, Fin.eqv_int, Fin.eqv_bool, Fin.eqv_bi, Fin.eqv_ib, Fin.isND_none, Fin.isND_int, Fin.isND_list, Fin.isND_tuple, Fin.revD_l, Fin.rev_map, Fin.back_val, Fin.back_none, Fin.filter_tt, List.map_cons, List.map_nil, List.length_cons, List.length_nil, List.getElem?_cons_zero, List.getElem?_cons_succ, List.set_cons_zero, List.set_cons_succ, List.replicate_succ, List.replicate_zero, List.cons_append, List.nil_append, Option.getD_some, Option.getD_none, Option.map_some, Option.map_none, Bool.and_true, Bool.true_and, Bool.and_false, Bool.false_and, Bool.and_self, Bool.not_true, Bool.not_false, Bool.true_eq_false, Bool.false_eq_true, Bool.not_eq_true', Bool.not_eq_false', if_true, if_false, ite_true, ite_false, true_and, and_true, false_and, and_false, true_implies, false_implies, implies_true, eq_self, decide_eq_true_eq, decide_eq_false_iff_not, decide_true, decide_false, bne_iff_ne, ne_eq, not_true_eq_false, not_false_eq_true, bne_eq_false_iff_eq, Option.some.injEq, Nat.zero_le, Nat.reduceAdd, Nat.reduceLeDiff, Nat.reduceLT, Nat.reduceBEq, Nat.reduceEqDiff, Int.reduceLE, Int.reduceLT, Int.reduceNeg, Int.reduceEq, okS_l (T := fx_law_ints) rfl, hS]
  refine wFor_at (fun j e => j ≤ S.length ∧ ∃ (k1 k2 : List (Key × D)) (c3 c4 : Option Cell), k1.length ≤ j ∧ k2.length ≤ j ∧
    (∀ p : Int, look k1 (.inl p) = if p ∈ S.take j then some (.int (S.idxOf p : Nat)) else none) ∧ (∀ p : Int, look k2 (.inl p) = if p ∈ S.take j then some (.int ((S.take j).count p : Nat)) else none) ∧
    e = [some (.val (.list (xs.map .int))), some (.dic k1), some (.dic k2), c3, c4]) ⟨Nat.zero_le _, [], [], none, none, Nat.le_refl _, Nat.le_refl _, fun p => by simp [look_nil], fun p => by simp [look_nil], rfl⟩ ?_ ?_
  · rintro j d e hd ⟨hj, k1, k2, c3, c4, l1, l2, h1, h2, rfl⟩
    unfold enumD at hd
    rw [List.getElem?_mapIdx] at hd
    have hjl : j < S.length := by
      rcases Nat.lt_or_ge j S.length with q | q
      · exact q
      · rw [List.getElem?_eq_none (by simpa using q)] at hd; cases hd
    rw [List.getElem?_map, List.getElem?_eq_getElem hjl] at hd
    cases hd
    have e2 : S.take (j + 1) = S.take j ++ [S[j]] := by rw [List.take_succ, List.getElem?_eq_getElem hjl]; rfl
    have b1 : k1.length < line := by rw [line_v]; omega
    have b2 : k2.length < line := by rw [line_v]; omega
    unfold b1_compared
    have g2 : (look k2 (.inl S[j])).getD (.int 0) = .int (((S.take j).count S[j] : Nat) : Int) := by
      rw [h2]
      by_cases q : S[j] ∈ S.take j
      · rw [if_pos q]; rfl
      · rw [if_neg q, List.count_eq_zero_of_not_mem q]; rfl
    simp only [Fin.wO_some, Fin.wO_none, Fin.wO_if, Fin.wO_map, Fin.wE_eq, Fin.kO_d, Fin.kO_sl, Fin.kO_lst, Fin.kO_exc, Fin.wR_var, Fin.kVar_val, Fin.kVar_lst, Fin.kVar_dic, Fin.kVar_exc, Fin.kVar_pool, Fin.pres_d, Fin.pres_fr, Fin.pres_sl, Fin.pres_nx, Fin.pres_exc, Fin.kP_pool, Fin.flatD, Fin.flat_ints, Fin.inD_ints, Fin.shp_ints, Fin.shp_nil, Fin.eqv_ints, Fin.eqv_ints_nil, Fin.b2D, Fin.wR_int, Fin.wR_str, Fin.wR_bool, Fin.wR_none, Fin.wR_glob, Fin.kRd0_eq, Fin.w2_bin, Fin.w2_cmp, Fin.w2_ix, Fin.w2_b2, Fin.kO4_eq, Fin.kO3_eq, Fin.kO2_ok, Fin.kO2_exc, Fin.kO1_ok, Fin.kO1_exc, Fin.w1_un, Fin.w1_rev, Fin.w1_isi, Fin.w1_fb, Fin.kU2_eq, Fin.kU1_ok, Fin.kU1_exc, Fin.kH8_eq, Fin.kH7_eq, Fin.kH6_ok, Fin.kH6_exc, Fin.kH5_eq, Fin.kH4_eq, Fin.kH3_eq, Fin.kH2_ok, Fin.kH2_exc, Fin.kH1_ok, Fin.kH1_exc, Fin.wR_bin, Fin.wR_cmp, Fin.wR_ix, Fin.wR_chn, Fin.wR_un, Fin.wR_rev, Fin.wR_isi, Fin.wR_fb, Fin.wR_and, Fin.wR_or, Fin.wR_not, Fin.kAnd_b, Fin.kAnd_exc, Fin.kOr_b, Fin.kOr_exc, Fin.kNot_b, Fin.kNot_exc, Fin.kT_ok, Fin.kT_exc, Fin.kIte_ok, Fin.kIte_exc, Fin.kIteE_ok, Fin.kIteE_exc, Fin.kTand_ok, Fin.kTand_exc, Fin.kTor_ok, Fin.kTor_exc, Fin.kTnot_ok, Fin.kTnot_exc, Fin.kTv_ok, Fin.kTv_exc, Fin.kTb_b, Fin.kTb_i, Fin.kTb_l, Fin.kTb_t, Fin.kTb_n, Fin.kTb_s, Fin.kRv_eq, Fin.kRb_eq, Fin.kRd_eq, Fin.kCmp_eq, Fin.kCi_ok, Fin.kCi_exc, Fin.kFor_ok, Fin.kFor_exc, Fin.wR_ite, Fin.wT_val, Fin.wT_and, Fin.wT_or, Fin.wT_not, Fin.kTup3_eq, Fin.kTup2_eq, Fin.kTup_ok, Fin.kTup_exc, Fin.kLst3_eq, Fin.kLst2_eq, Fin.kLst_ok, Fin.kLst_exc, Fin.kBi2_eq, Fin.kBi_ok, Fin.kBi_exc, Fin.kBm3_eq, Fin.kBm2_ok, Fin.kBm2_exc, Fin.kBm1_eq, Fin.kBm_ok, Fin.kBm_exc, Fin.kMm4_eq, Fin.kMm3_lst, Fin.kMm2_eq, Fin.kMm1_eq, Fin.kMm_ok, Fin.kMm_exc, Fin.kSl4_eq, Fin.kSl3_eq, Fin.kSl2_eq, Fin.kSl1_ok, Fin.kSl1_exc, Fin.kB2_eq, Fin.kB1_ok, Fin.kB1_exc, Fin.kG7_eq, Fin.kG6_eq, Fin.kG5_eq, Fin.kG4_eq, Fin.kG3_ok, Fin.kG3_exc, Fin.kG2_ok, Fin.kG2_exc, Fin.kG1_eq, Fin.kG0_ok, Fin.kG0_exc, Fin.kD6_eq, Fin.kD5_eq, Fin.kD4_eq, Fin.kD3_eq, Fin.kD2_ok, Fin.kD2_exc, Fin.kD1_ok, Fin.kD1_exc, Fin.kC3_eq, Fin.kC2_eq, Fin.kC1_ok, Fin.kC1_exc, Fin.kMv2_eq, Fin.kMv_sl, Fin.kMv_exc, Fin.wEs_nil, Fin.kEs_ok, Fin.kEs_exc, Fin.kEc_ok, Fin.kEc_exc, Fin.wEs_cons, Fin.wR_tup, Fin.wR_lst, Fin.wR_bi, Fin.wR_bm, Fin.wR_mm, Fin.wR_sl, Fin.wSl_non, Fin.wSl_some, Fin.kSl_i, Fin.wR_dic0, Fin.kIsx_e, Fin.wR_isx, Fin.kP_val, Fin.kP_lst, Fin.kP_dic, Fin.kP_exc, Fin.kM_ok, Fin.kM_exc, Fin.kMc_c, Fin.isVal_pool, Fin.wR_comp, Fin.kI_ok, Fin.kI_exc, Fin.kIs_ok, Fin.kIs_exc, Fin.wI_seq, Fin.wI_rng, Fin.kRg_1, Fin.kRg_2, Fin.wS_seq, Fin.kSeq_nx, Fin.kSeq_rt, Fin.kSeq_exc, Fin.kSeq_bk, Fin.kSeq_ct, Fin.wS_pass, Fin.wS_brk, Fin.wS_cnt, Fin.wS_retN, Fin.wS_raise, Fin.kEx_ok, Fin.kEx_exc, Fin.wS_expr, Fin.kRet_ok, Fin.kRet_exc, Fin.wS_ret, Fin.kSet_d, Fin.kSet_fr, Fin.kSet_sl, Fin.kSet_exc, Fin.wS_set, Fin.kUnp_ok, Fin.kUnp_exc, Fin.wS_unp, Fin.kAug_ok, Fin.kAug_exc, Fin.kAugV_val, Fin.wS_aug, Fin.wS_ite, Fin.wS_for, Fin.wS_whl, Fin.kSx2_c, Fin.kSx1_d, Fin.kSx1_exc, Fin.kSx_ok, Fin.kSx_exc, Fin.wS_setIx, Fin.wS_tryx, Fin.wS_tryas, Fin.kTas_nx, Fin.kTas_rt, Fin.kTas_exc, Fin.kLp_nx, Fin.kLp_ct, Fin.kLp_bk, Fin.kLp_rt, Fin.kLp_exc, Fin.wBind_one, Fin.wBind_many, Fin.kV_d, Fin.wR_b2, Fin.wR_dget, Fin.kDs_dic, Fin.wR_dset, Fin.wR_lsI, Fin.kEn_ok, Fin.kEn_exc, Fin.wI_enum, Fin.kRev_ok, Fin.kRev_exc, Fin.wI_rev, Fin.kRr_1, Fin.wI_revr, Fin.kAx2_lst, Fin.kAx_ok, Fin.kAx1_lst, Fin.kAx0_i, Fin.b2T, Fin.isDic, Fin.flOf, Fin.biSorted, Fin.biSum, Fin.intsD_map, Fin.wBin, Fin.wCmp, Fin.binD_ii, Fin.binD_ss, Fin.binD_ll, Fin.binD_li, Fin.binI, Fin.dVal, Fin.mulOk_eq, Fin.powOk_eq, Fin.unD_neg, Fin.unD_inv, Fin.cmpD_eq, Fin.cmpD_ne, Fin.cmpD_lt, Fin.cmpD_le, Fin.cmpD_gt, Fin.cmpD_ge, Fin.cmpD_is, Fin.cmpD_isnot, Fin.cmpD_inl, Fin.cmpD_int, Fin.cmpD_nil, Fin.cmpD_nit, Fin.ixD_l, Fin.ixD_t, Fin.ixD_di, Fin.ixD_ds, Fin.dgD_i, Fin.dgD_s, Fin.isDct_k, Fin.atI_0, Fin.atI_1, Fin.atI_2, Fin.atI_3, Fin.biD, Fin.biLen, Fin.biInt, Fin.biAbs, Fin.biMin, Fin.biList, Fin.biTuple, Fin.isiD, Fin.mmD, Fin.mmAppend, Fin.isLst, Fin.isOwn, Fin.res, Fin.resL, Fin.frzS, Fin.hasSl, Fin.isVal_lst, Fin.isVal_dic, Fin.isVal_val, Fin.asVal, Fin.scalC, Fin.scalD, Fin.Cell.frz, Fin.setC_di, Fin.setC_ds, Fin.setC_l, Fin.bindL, List.length_map, Fin.initE, Fin.shp_int, Fin.shp_bool, Fin.shp_none, Fin.eqv_int, Fin.eqv_bool, Fin.eqv_bi, Fin.eqv_ib, Fin.isND_none, Fin.isND_int, Fin.isND_list, Fin.isND_tuple, Fin.revD_l, Fin.rev_map, Fin.back_val, Fin.back_none, Fin.filter_tt, List.map_cons, List.map_nil, List.length_cons, List.length_nil, List.getElem?_cons_zero, List.getElem?_cons_succ, List.set_cons_zero, List.set_cons_succ, List.replicate_succ, List.replicate_zero, List.cons_append, List.nil_append, Option.getD_some, Option.getD_none, Option.map_some, Option.map_none, Bool.and_true, Bool.true_and, Bool.and_false, Bool.false_and, Bool.and_self, Bool.not_true, Bool.not_false, Bool.true_eq_false, Bool.false_eq_true, Bool.not_eq_true', Bool.not_eq_false', if_true, if_false, ite_true, ite_false, true_and, and_true, false_and, and_false, true_implies, false_implies, implies_true, eq_self, decide_eq_true_eq, decide_eq_false_iff_not, decide_true, decide_false, bne_iff_ne, ne_eq, not_true_eq_false, not_false_eq_true, bne_eq_false_iff_eq, Option.some.injEq, Nat.zero_le, Nat.reduceAdd, Nat.reduceLeDiff, Nat.reduceLT, Nat.reduceBEq, Nat.reduceEqDiff, Int.reduceLE, Int.reduceLT, Int.reduceNeg, Int.reduceEq, okS_l (T := fx_law_ints) rfl, dsD_i _ _ _ b1, b2, g2]
    refine ⟨by omega, _, _, _, _, ?_, Nat.le_trans (length_putD _ _ _) (by omega), ?_, ?_, rfl⟩
    · split
      · omega
      · exact Nat.le_trans (length_putD _ _ _) (by omega)
    · intro p
      have hmem : p ∈ S.take (j + 1) ↔ p ∈ S.take j ∨ p = S[j] := by rw [e2]; simp only [List.mem_append, List.mem_singleton]
      have hnew := idxOf_new hjl
      generalize S[j] = x at *
      by_cases q : x ∈ S.take j
      · have q2 : (look k1 (.inl x)).isSome = true := by rw [h1, if_pos q]; rfl
        rw [if_pos q2, h1]
        by_cases q3 : p ∈ S.take j
        · rw [if_pos q3, if_pos (hmem.mpr (.inl q3))]
        · have q4 : ¬ p = x := fun z => q3 (by rw [z]; exact q)
          rw [if_neg q3, if_neg (fun z => (hmem.mp z).elim q3 q4)]
      · have q2 : ¬ (look k1 (.inl x)).isSome = true := by rw [h1, if_neg q]; simp
        rw [if_neg q2, look_put, h1]
        by_cases q3 : p = x
        · subst q3
          rw [if_pos rfl, if_pos (hmem.mpr (.inr rfl)), hnew q]
        · have q4 : ¬ (Sum.inl p : Key) = Sum.inl x := fun z => q3 (Sum.inl.inj z)
          rw [if_neg q4]
          by_cases q5 : p ∈ S.take j
          · rw [if_pos q5, if_pos (hmem.mpr (.inl q5))]
          · rw [if_neg q5, if_neg (fun z => (hmem.mp z).elim q5 q3)]
    · intro p
      have hmem : p ∈ S.take (j + 1) ↔ p ∈ S.take j ∨ p = S[j] := by rw [e2]; simp only [List.mem_append, List.mem_singleton]
      have hcnt : (S.take (j + 1)).count p = (S.take j).count p + (if S[j] = p then 1 else 0) := by
        rw [e2, List.count_append]
        by_cases q : S[j] = p <;> simp [q]
      generalize S[j] = x at *
      rw [look_put, hcnt]
      by_cases q3 : p = x
      · subst q3
        rw [if_pos rfl, if_pos (hmem.mpr (.inr rfl)), if_pos rfl]
        rfl
      · have q4 : ¬ (Sum.inl p : Key) = Sum.inl x := fun z => q3 (Sum.inl.inj z)
        have q6 : ¬ x = p := fun z => q3 z.symm
        rw [if_neg q4, h2]
        by_cases q5 : p ∈ S.take j
        · rw [if_pos q5, if_pos (hmem.mpr (.inl q5)), if_neg q6, Nat.add_zero]
        · rw [if_neg q5, if_neg (fun z => (hmem.mp z).elim q5 q3)]
  · rintro e ⟨hj, k1, k2, c3, c4, l1, l2, h1, h2, rfl⟩
    have e9 : (enumD (S.map PyData.int)).length = S.length := by simp [enumD]
    rw [e9, List.take_length] at h1 h2
    unfold c1_compared
    simp only [Fin.wO_some, Fin.wO_none, Fin.wO_if, Fin.wO_map, Fin.wE_eq, Fin.kO_d, Fin.kO_sl, Fin.kO_lst, Fin.kO_exc, Fin.wR_var, Fin.kVar_val, Fin.kVar_lst, Fin.kVar_dic, Fin.kVar_exc, Fin.kVar_pool, Fin.pres_d, Fin.pres_fr, Fin.pres_sl, Fin.pres_nx, Fin.pres_exc, Fin.kP_pool, Fin.flatD, Fin.flat_ints, Fin.inD_ints, Fin.shp_ints, Fin.shp_nil, Fin.eqv_ints, Fin.eqv_ints_nil, Fin.b2D, Fin.wR_int, Fin.wR_str, Fin.wR_bool, Fin.wR_none, Fin.wR_glob, Fin.kRd0_eq, Fin.w2_bin, Fin.w2_cmp, Fin.w2_ix, Fin.w2_b2, Fin.kO4_eq, Fin.kO3_eq, Fin.kO2_ok, Fin.kO2_exc, Fin.kO1_ok, Fin.kO1_exc, Fin.w1_un, Fin.w1_rev, Fin.w1_isi, Fin.w1_fb, Fin.kU2_eq, Fin.kU1_ok, Fin.kU1_exc, Fin.kH8_eq, Fin.kH7_eq, Fin.kH6_ok, Fin.kH6_exc, Fin.kH5_eq, Fin.kH4_eq, Fin.kH3_eq, Fin.kH2_ok, Fin.kH2_exc, Fin.kH1_ok, Fin.kH1_exc, Fin.wR_bin, Fin.wR_cmp, Fin.wR_ix, Fin.wR_chn, Fin.wR_un, Fin.wR_rev, Fin.wR_isi, Fin.wR_fb, Fin.wR_and, Fin.wR_or, Fin.wR_not, Fin.kAnd_b, Fin.kAnd_exc, Fin.kOr_b, Fin.kOr_exc, Fin.kNot_b, Fin.kNot_exc, Fin.kT_ok, Fin.kT_exc, Fin.kIte_ok, Fin.kIte_exc, Fin.kIteE_ok, Fin.kIteE_exc, Fin.kTand_ok, Fin.kTand_exc, Fin.kTor_ok, Fin.kTor_exc, Fin.kTnot_ok, Fin.kTnot_exc, Fin.kTv_ok, Fin.kTv_exc, Fin.kTb_b, Fin.kTb_i, Fin.kTb_l, Fin.kTb_t, Fin.kTb_n, Fin.kTb_s, Fin.kRv_eq, Fin.kRb_eq, Fin.kRd_eq, Fin.kCmp_eq, Fin.kCi_ok, Fin.kCi_exc, Fin.kFor_ok, Fin.kFor_exc, Fin.wR_ite, Fin.wT_val, Fin.wT_and, Fin.wT_or, Fin.wT_not, Fin.kTup3_eq, Fin.kTup2_eq, Fin.kTup_ok, Fin.kTup_exc, Fin.kLst3_eq, Fin.kLst2_eq, Fin.kLst_ok, Fin.kLst_exc, Fin.kBi2_eq, Fin.kBi_ok, Fin.kBi_exc, Fin.kBm3_eq, Fin.kBm2_ok, Fin.kBm2_exc, Fin.kBm1_eq, Fin.kBm_ok, Fin.kBm_exc, Fin.kMm4_eq, Fin.kMm3_lst, Fin.kMm2_eq, Fin.kMm1_eq, Fin.kMm_ok, Fin.kMm_exc, Fin.kSl4_eq, Fin.kSl3_eq, Fin.kSl2_eq, Fin.kSl1_ok, Fin.kSl1_exc, Fin.kB2_eq, Fin.kB1_ok, Fin.kB1_exc, Fin.kG7_eq, Fin.kG6_eq, Fin.kG5_eq, Fin.kG4_eq, Fin.kG3_ok, Fin.kG3_exc, Fin.kG2_ok, Fin.kG2_exc, Fin.kG1_eq, Fin.kG0_ok, Fin.kG0_exc, Fin.kD6_eq, Fin.kD5_eq, Fin.kD4_eq, Fin.kD3_eq, Fin.kD2_ok, Fin.kD2_exc, Fin.kD1_ok, Fin.kD1_exc, Fin.kC3_eq, Fin.kC2_eq, Fin.kC1_ok, Fin.kC1_exc, Fin.kMv2_eq, Fin.kMv_sl, Fin.kMv_exc, Fin.wEs_nil, Fin.kEs_ok, Fin.kEs_exc, Fin.kEc_ok, Fin.kEc_exc, Fin.wEs_cons, Fin.wR_tup, Fin.wR_lst, Fin.wR_bi, Fin.wR_bm, Fin.wR_mm, Fin.wR_sl, Fin.wSl_non, Fin.wSl_some, Fin.kSl_i, Fin.wR_dic0, Fin.kIsx_e, Fin.wR_isx, Fin.kP_val, Fin.kP_lst, Fin.kP_dic, Fin.kP_exc, Fin.kM_ok, Fin.kM_exc, Fin.kMc_c, Fin.isVal_pool, Fin.wR_comp, Fin.kI_ok, Fin.kI_exc, Fin.kIs_ok, Fin.kIs_exc, Fin.wI_seq, Fin.wI_rng, Fin.kRg_1, Fin.kRg_2, Fin.wS_seq, Fin.kSeq_nx, Fin.kSeq_rt, Fin.kSeq_exc, Fin.kSeq_bk, Fin.kSeq_ct, Fin.wS_pass, Fin.wS_brk, Fin.wS_cnt, Fin.wS_retN, Fin.wS_raise, Fin.kEx_ok, Fin.kEx_exc, Fin.wS_expr, Fin.kRet_ok, Fin.kRet_exc, Fin.wS_ret, Fin.kSet_d, Fin.kSet_fr, Fin.kSet_sl, Fin.kSet_exc, Fin.wS_set, Fin.kUnp_ok, Fin.kUnp_exc, Fin.wS_unp, Fin.kAug_ok, Fin.kAug_exc, Fin.kAugV_val, Fin.wS_aug, Fin.wS_ite, Fin.wS_for, Fin.wS_whl, Fin.kSx2_c, Fin.kSx1_d, Fin.kSx1_exc, Fin.kSx_ok, Fin.kSx_exc, Fin.wS_setIx, Fin.wS_tryx, Fin.wS_tryas, Fin.kTas_nx, Fin.kTas_rt, Fin.kTas_exc, Fin.kLp_nx, Fin.kLp_ct, Fin.kLp_bk, Fin.kLp_rt, Fin.kLp_exc, Fin.wBind_one, Fin.wBind_many, Fin.kV_d, Fin.wR_b2, Fin.wR_dget, Fin.kDs_dic, Fin.wR_dset, Fin.wR_lsI, Fin.kEn_ok, Fin.kEn_exc, Fin.wI_enum, Fin.kRev_ok, Fin.kRev_exc, Fin.wI_rev, Fin.kRr_1, Fin.wI_revr, Fin.kAx2_lst, Fin.kAx_ok, Fin.kAx1_lst, Fin.kAx0_i, Fin.b2T, Fin.isDic, Fin.flOf, Fin.biSorted, Fin.biSum, Fin.intsD_map, Fin.wBin, Fin.wCmp, Fin.binD_ii, Fin.binD_ss, Fin.binD_ll, Fin.binD_li, Fin.binI, Fin.dVal, Fin.mulOk_eq, Fin.powOk_eq, Fin.unD_neg, Fin.unD_inv, Fin.cmpD_eq, Fin.cmpD_ne, Fin.cmpD_lt, Fin.cmpD_le, Fin.cmpD_gt, Fin.cmpD_ge, Fin.cmpD_is, Fin.cmpD_isnot, Fin.cmpD_inl, Fin.cmpD_int, Fin.cmpD_nil, Fin.cmpD_nit, Fin.ixD_l, Fin.ixD_t, Fin.ixD_di, Fin.ixD_ds, Fin.dgD_i, Fin.dgD_s, Fin.isDct_k, Fin.atI_0, Fin.atI_1, Fin.atI_2, Fin.atI_3, Fin.biD, Fin.biLen, Fin.biInt, Fin.biAbs, Fin.biMin, Fin.biList, Fin.biTuple, Fin.isiD, Fin.mmD, Fin.mmAppend, Fin.isLst, Fin.isOwn, Fin.res, Fin.resL, Fin.frzS, Fin.hasSl, Fin.isVal_lst, Fin.isVal_dic, Fin.isVal_val, Fin.asVal, Fin.scalC, Fin.scalD, Fin.Cell.frz, Fin.setC_di, Fin.setC_ds, Fin.setC_l, Fin.bindL, List.length_map, Fin.initE, Fin.shp_int, Fin.shp_bool, Fin.shp_none, Fin.eqv_int, Fin.eqv_bool, Fin.eqv_bi, Fin.eqv_ib, Fin.isND_none, Fin.isND_int, Fin.isND_list, Fin.isND_tuple, Fin.revD_l, Fin.rev_map, Fin.back_val, Fin.back_none, Fin.filter_tt, List.map_cons, List.map_nil, List.length_cons, List.length_nil, List.getElem?_cons_zero, List.getElem?_cons_succ, List.set_cons_zero, List.set_cons_succ, List.replicate_succ, List.replicate_zero, List.cons_append, List.nil_append, Option.getD_some, Option.getD_none, Option.map_some, Option.map_none, Bool.and_true, Bool.true_and, Bool.and_false, Bool.false_and, Bool.and_self, Bool.not_true, Bool.not_false, Bool.true_eq_false, Bool.false_eq_true, Bool.not_eq_true', Bool.not_eq_false', if_true, if_false, ite_true, ite_false, true_and, and_true, false_and, and_false, true_implies, false_implies, implies_true, eq_self, decide_eq_true_eq, decide_eq_false_iff_not, decide_true, decide_false, bne_iff_ne, ne_eq, not_true_eq_false, not_false_eq_true, bne_eq_false_iff_eq, Option.some.injEq, Nat.zero_le, Nat.reduceAdd, Nat.reduceLeDiff, Nat.reduceLT, Nat.reduceBEq, Nat.reduceEqDiff, Int.reduceLE, Int.reduceLT, Int.reduceNeg, Int.reduceEq, okS_l (T := fx_law_ints) rfl]
    refine wComp_map (fun _ => true) (fun p => .int (wsum xs p - 1)) (by simp only [List.set_cons_succ, List.set_cons_zero]) (by rw [line_v]; omega) (fun p hp => ⟨?_, fun _ => ?_⟩) ?_
    · unfold t1_compared
      simp only [Fin.wO_some, Fin.wO_none, Fin.wO_if, Fin.wO_map, Fin.wE_eq, Fin.kO_d, Fin.kO_sl, Fin.kO_lst, Fin.kO_exc, Fin.wR_var, Fin.kVar_val, Fin.kVar_lst, Fin.kVar_dic, Fin.kVar_exc, Fin.kVar_pool, Fin.pres_d, Fin.pres_fr, Fin.pres_sl, Fin.pres_nx, Fin.pres_exc, Fin.kP_pool, Fin.flatD, Fin.flat_ints, Fin.inD_ints, Fin.shp_ints, Fin.shp_nil, Fin.eqv_ints, Fin.eqv_ints_nil, Fin.b2D, Fin.wR_int, Fin.wR_str, Fin.wR_bool, Fin.wR_none, Fin.wR_glob, Fin.kRd0_eq, Fin.w2_bin, Fin.w2_cmp, Fin.w2_ix, Fin.w2_b2, Fin.kO4_eq, Fin.kO3_eq, Fin.kO2_ok, Fin.kO2_exc, Fin.kO1_ok, Fin.kO1_exc, Fin.w1_un, Fin.w1_rev, Fin.w1_isi, Fin.w1_fb, Fin.kU2_eq, Fin.kU1_ok, Fin.kU1_exc, Fin.kH8_eq, Fin.kH7_eq, Fin.kH6_ok, Fin.kH6_exc, Fin.kH5_eq, Fin.kH4_eq, Fin.kH3_eq, Fin.kH2_ok, Fin.kH2_exc, Fin.kH1_ok, Fin.kH1_exc, Fin.wR_bin, Fin.wR_cmp, Fin.wR_ix, Fin.wR_chn, Fin.wR_un, Fin.wR_rev, Fin.wR_isi, Fin.wR_fb, Fin.wR_and, Fin.wR_or, Fin.wR_not, Fin.kAnd_b, Fin.kAnd_exc, Fin.kOr_b, Fin.kOr_exc, Fin.kNot_b, Fin.kNot_exc, Fin.kT_ok, Fin.kT_exc, Fin.kIte_ok, Fin.kIte_exc, Fin.kIteE_ok, Fin.kIteE_exc, Fin.kTand_ok, Fin.kTand_exc, Fin.kTor_ok, Fin.kTor_exc, Fin.kTnot_ok, Fin.kTnot_exc, Fin.kTv_ok, Fin.kTv_exc, Fin.kTb_b, Fin.kTb_i, Fin.kTb_l, Fin.kTb_t, Fin.kTb_n, Fin.kTb_s, Fin.kRv_eq, Fin.kRb_eq, Fin.kRd_eq, Fin.kCmp_eq, Fin.kCi_ok, Fin.kCi_exc, Fin.kFor_ok, Fin.kFor_exc, Fin.wR_ite, Fin.wT_val, Fin.wT_and, Fin.wT_or, Fin.wT_not, Fin.kTup3_eq, Fin.kTup2_eq, Fin.kTup_ok, Fin.kTup_exc, Fin.kLst3_eq, Fin.kLst2_eq, Fin.kLst_ok, Fin.kLst_exc, Fin.kBi2_eq, Fin.kBi_ok, Fin.kBi_exc, Fin.kBm3_eq, Fin.kBm2_ok, Fin.kBm2_exc, Fin.kBm1_eq, Fin.kBm_ok, Fin.kBm_exc, Fin.kMm4_eq, Fin.kMm3_lst, Fin.kMm2_eq, Fin.kMm1_eq, Fin.kMm_ok, Fin.kMm_exc, Fin.kSl4_eq, Fin.kSl3_eq, Fin.kSl2_eq, Fin.kSl1_ok, Fin.kSl1_exc, Fin.kB2_eq, Fin.kB1_ok, Fin.kB1_exc, Fin.kG7_eq, Fin.kG6_eq, Fin.kG5_eq, Fin.kG4_eq, Fin.kG3_ok, Fin.kG3_exc, Fin.kG2_ok, Fin.kG2_exc, Fin.kG1_eq, Fin.kG0_ok, Fin.kG0_exc, Fin.kD6_eq, Fin.kD5_eq, Fin.kD4_eq, Fin.kD3_eq, Fin.kD2_ok, Fin.kD2_exc, Fin.kD1_ok, Fin.kD1_exc, Fin.kC3_eq, Fin.kC2_eq, Fin.kC1_ok, Fin.kC1_exc, Fin.kMv2_eq, Fin.kMv_sl, Fin.kMv_exc, Fin.wEs_nil, Fin.kEs_ok, Fin.kEs_exc, Fin.kEc_ok, Fin.kEc_exc, Fin.wEs_cons, Fin.wR_tup, Fin.wR_lst, Fin.wR_bi, Fin.wR_bm, Fin.wR_mm, Fin.wR_sl, Fin.wSl_non, Fin.wSl_some, Fin.kSl_i, Fin.wR_dic0, Fin.kIsx_e, Fin.wR_isx, Fin.kP_val, Fin.kP_lst, Fin.kP_dic, Fin.kP_exc, Fin.kM_ok, Fin.kM_exc, Fin.kMc_c, Fin.isVal_pool, Fin.wR_comp, Fin.kI_ok, Fin.kI_exc, Fin.kIs_ok, Fin.kIs_exc, Fin.wI_seq, Fin.wI_rng, Fin.kRg_1, Fin.kRg_2, Fin.wS_seq, Fin.kSeq_nx, Fin.kSeq_rt, Fin.kSeq_exc, Fin.kSeq_bk, Fin.kSeq_ct, Fin.wS_pass, Fin.wS_brk, Fin.wS_cnt, Fin.wS_retN, Fin.wS_raise, Fin.kEx_ok, Fin.kEx_exc, Fin.wS_expr, Fin.kRet_ok, Fin.kRet_exc, Fin.wS_ret, Fin.kSet_d, Fin.kSet_fr, Fin.kSet_sl, Fin.kSet_exc, Fin.wS_set, Fin.kUnp_ok, Fin.kUnp_exc, Fin.wS_unp, Fin.kAug_ok, Fin.kAug_exc, Fin.kAugV_val, Fin.wS_aug, Fin.wS_ite, Fin.wS_for, Fin.wS_whl, Fin.kSx2_c, Fin.kSx1_d, Fin.kSx1_exc, Fin.kSx_ok, Fin.kSx_exc, Fin.wS_setIx, Fin.wS_tryx, Fin.wS_tryas, Fin.kTas_nx, Fin.kTas_rt, Fin.kTas_exc, Fin.kLp_nx, Fin.kLp_ct, Fin.kLp_bk, Fin.kLp_rt, Fin.kLp_exc, Fin.wBind_one, Fin.wBind_many, Fin.kV_d, Fin.wR_b2, Fin.wR_dget, Fin.kDs_dic, Fin.wR_dset, Fin.wR_lsI, Fin.kEn_ok, Fin.kEn_exc, Fin.wI_enum, Fin.kRev_ok, Fin.kRev_exc, Fin.wI_rev, Fin.kRr_1, Fin.wI_revr, Fin.kAx2_lst, Fin.kAx_ok, Fin.kAx1_lst, Fin.kAx0_i, Fin.b2T, Fin.isDic, Fin.flOf, Fin.biSorted, Fin.biSum, Fin.intsD_map, Fin.wBin, Fin.wCmp, Fin.binD_ii, Fin.binD_ss, Fin.binD_ll, Fin.binD_li, Fin.binI, Fin.dVal, Fin.mulOk_eq, Fin.powOk_eq, Fin.unD_neg, Fin.unD_inv, Fin.cmpD_eq, Fin.cmpD_ne, Fin.cmpD_lt, Fin.cmpD_le, Fin.cmpD_gt, Fin.cmpD_ge, Fin.cmpD_is, Fin.cmpD_isnot, Fin.cmpD_inl, Fin.cmpD_int, Fin.cmpD_nil, Fin.cmpD_nit, Fin.ixD_l, Fin.ixD_t, Fin.ixD_di, Fin.ixD_ds, Fin.dgD_i, Fin.dgD_s, Fin.isDct_k, Fin.atI_0, Fin.atI_1, Fin.atI_2, Fin.atI_3, Fin.biD, Fin.biLen, Fin.biInt, Fin.biAbs, Fin.biMin, Fin.biList, Fin.biTuple, Fin.isiD, Fin.mmD, Fin.mmAppend, Fin.isLst, Fin.isOwn, Fin.res, Fin.resL, Fin.frzS, Fin.hasSl, Fin.isVal_lst, Fin.isVal_dic, Fin.isVal_val, Fin.asVal, Fin.scalC, Fin.scalD, Fin.Cell.frz, Fin.setC_di, Fin.setC_ds, Fin.setC_l, Fin.bindL, List.length_map, Fin.initE, Fin.shp_int, Fin.shp_bool, Fin.shp_none, Fin.eqv_int, Fin.eqv_bool, Fin.eqv_bi, Fin.eqv_ib, Fin.isND_none, Fin.isND_int, Fin.isND_list, Fin.isND_tuple, Fin.revD_l, Fin.rev_map, Fin.back_val, Fin.back_none, Fin.filter_tt, List.map_cons, List.map_nil, List.length_cons, List.length_nil, List.getElem?_cons_zero, List.getElem?_cons_succ, List.set_cons_zero, List.set_cons_succ, List.replicate_succ, List.replicate_zero, List.cons_append, List.nil_append, Option.getD_some, Option.getD_none, Option.map_some, Option.map_none, Bool.and_true, Bool.true_and, Bool.and_false, Bool.false_and, Bool.and_self, Bool.not_true, Bool.not_false, Bool.true_eq_false, Bool.false_eq_true, Bool.not_eq_true', Bool.not_eq_false', if_true, if_false, ite_true, ite_false, true_and, and_true, false_and, and_false, true_implies, false_implies, implies_true, eq_self, decide_eq_true_eq, decide_eq_false_iff_not, decide_true, decide_false, bne_iff_ne, ne_eq, not_true_eq_false, not_false_eq_true, bne_eq_false_iff_eq, Option.some.injEq, Nat.zero_le, Nat.reduceAdd, Nat.reduceLeDiff, Nat.reduceLT, Nat.reduceBEq, Nat.reduceEqDiff, Int.reduceLE, Int.reduceLT, Int.reduceNeg, Int.reduceEq]
    · have hpS : p ∈ S := hperm.mem_iff.mpr hp
      have g1 : look k1 (.inl p) = some (.int (S.idxOf p : Nat)) := by rw [h1, if_pos hpS]
      have g2 : look k2 (.inl p) = some (.int (S.count p : Nat)) := by rw [h2, if_pos hpS]
      have g3 := sorted_first hsort hpS
      unfold x1_compared
      simp only [Fin.wO_some, Fin.wO_none, Fin.wO_if, Fin.wO_map, Fin.wE_eq, Fin.kO_d, Fin.kO_sl, Fin.kO_lst, Fin.kO_exc, Fin.wR_var, Fin.kVar_val, Fin.kVar_lst, Fin.kVar_dic, Fin.kVar_exc, Fin.kVar_pool, Fin.pres_d, Fin.pres_fr, Fin.pres_sl, Fin.pres_nx, Fin.pres_exc, Fin.kP_pool, Fin.flatD, Fin.flat_ints, Fin.inD_ints, Fin.shp_ints, Fin.shp_nil, Fin.eqv_ints, Fin.eqv_ints_nil, Fin.b2D, Fin.wR_int, Fin.wR_str, Fin.wR_bool, Fin.wR_none, Fin.wR_glob, Fin.kRd0_eq, Fin.w2_bin, Fin.w2_cmp, Fin.w2_ix, Fin.w2_b2, Fin.kO4_eq, Fin.kO3_eq, Fin.kO2_ok, Fin.kO2_exc, Fin.kO1_ok, Fin.kO1_exc, Fin.w1_un, Fin.w1_rev, Fin.w1_isi, Fin.w1_fb, Fin.kU2_eq, Fin.kU1_ok, Fin.kU1_exc, Fin.kH8_eq, Fin.kH7_eq, Fin.kH6_ok, Fin.kH6_exc, Fin.kH5_eq, Fin.kH4_eq, Fin.kH3_eq, Fin.kH2_ok, Fin.kH2_exc, Fin.kH1_ok, Fin.kH1_exc, Fin.wR_bin, Fin.wR_cmp, Fin.wR_ix, Fin.wR_chn, Fin.wR_un, Fin.wR_rev, Fin.wR_isi, Fin.wR_fb, Fin.wR_and, Fin.wR_or, Fin.wR_not, Fin.kAnd_b, Fin.kAnd_exc, Fin.kOr_b, Fin.kOr_exc, Fin.kNot_b, Fin.kNot_exc, Fin.kT_ok, Fin.kT_exc, Fin.kIte_ok, Fin.kIte_exc, Fin.kIteE_ok, Fin.kIteE_exc, Fin.kTand_ok, Fin.kTand_exc, Fin.kTor_ok, Fin.kTor_exc, Fin.kTnot_ok, Fin.kTnot_exc, Fin.kTv_ok, Fin.kTv_exc, Fin.kTb_b, Fin.kTb_i, Fin.kTb_l, Fin.kTb_t, Fin.kTb_n, Fin.kTb_s, Fin.kRv_eq, Fin.kRb_eq, Fin.kRd_eq, Fin.kCmp_eq, Fin.kCi_ok, Fin.kCi_exc, Fin.kFor_ok, Fin.kFor_exc, Fin.wR_ite, Fin.wT_val, Fin.wT_and, Fin.wT_or, Fin.wT_not, Fin.kTup3_eq, Fin.kTup2_eq, Fin.kTup_ok, Fin.kTup_exc, Fin.kLst3_eq, Fin.kLst2_eq, Fin.kLst_ok, Fin.kLst_exc, Fin.kBi2_eq, Fin.kBi_ok, Fin.kBi_exc, Fin.kBm3_eq, Fin.kBm2_ok, Fin.kBm2_exc, Fin.kBm1_eq, Fin.kBm_ok, Fin.kBm_exc, Fin.kMm4_eq, Fin.kMm3_lst, Fin.kMm2_eq, Fin.kMm1_eq, Fin.kMm_ok, Fin.kMm_exc, Fin.kSl4_eq, Fin.kSl3_eq, Fin.kSl2_eq, Fin.kSl1_ok, Fin.kSl1_exc, Fin.kB2_eq, Fin.kB1_ok, Fin.kB1_exc, Fin.kG7_eq, Fin.kG6_eq, Fin.kG5_eq, Fin.kG4_eq, Fin.kG3_ok, Fin.kG3_exc, Fin.kG2_ok, Fin.kG2_exc, Fin.kG1_eq, Fin.kG0_ok, Fin.kG0_exc, Fin.kD6_eq, Fin.kD5_eq, Fin.kD4_eq, Fin.kD3_eq, Fin.kD2_ok, Fin.kD2_exc, Fin.kD1_ok, Fin.kD1_exc, Fin.kC3_eq, Fin.kC2_eq, Fin.kC1_ok, Fin.kC1_exc, Fin.kMv2_eq, Fin.kMv_sl, Fin.kMv_exc, Fin.wEs_nil, Fin.kEs_ok, Fin.kEs_exc, Fin.kEc_ok, Fin.kEc_exc, Fin.wEs_cons, Fin.wR_tup, Fin.wR_lst, Fin.wR_bi, Fin.wR_bm, Fin.wR_mm, Fin.wR_sl, Fin.wSl_non, Fin.wSl_some, Fin.kSl_i, Fin.wR_dic0, Fin.kIsx_e, Fin.wR_isx, Fin.kP_val, Fin.kP_lst, Fin.kP_dic, Fin.kP_exc, Fin.kM_ok, Fin.kM_exc, Fin.kMc_c, Fin.isVal_pool, Fin.wR_comp, Fin.kI_ok, Fin.kI_exc, Fin.kIs_ok, Fin.kIs_exc, Fin.wI_seq, Fin.wI_rng, Fin.kRg_1, Fin.kRg_2, Fin.wS_seq, Fin.kSeq_nx, Fin.kSeq_rt, Fin.kSeq_exc, Fin.kSeq_bk, Fin.kSeq_ct, Fin.wS_pass, Fin.wS_brk, Fin.wS_cnt, Fin.wS_retN, Fin.wS_raise, Fin.kEx_ok, Fin.kEx_exc, Fin.wS_expr, Fin.kRet_ok, Fin.kRet_exc, Fin.wS_ret, Fin.kSet_d, Fin.kSet_fr, Fin.kSet_sl, Fin.kSet_exc, Fin.wS_set, Fin.kUnp_ok, Fin.kUnp_exc, Fin.wS_unp, Fin.kAug_ok, Fin.kAug_exc, Fin.kAugV_val, Fin.wS_aug, Fin.wS_ite, Fin.wS_for, Fin.wS_whl, Fin.kSx2_c, Fin.kSx1_d, Fin.kSx1_exc, Fin.kSx_ok, Fin.kSx_exc, Fin.wS_setIx, Fin.wS_tryx, Fin.wS_tryas, Fin.kTas_nx, Fin.kTas_rt, Fin.kTas_exc, Fin.kLp_nx, Fin.kLp_ct, Fin.kLp_bk, Fin.kLp_rt, Fin.kLp_exc, Fin.wBind_one, Fin.wBind_many, Fin.kV_d, Fin.wR_b2, Fin.wR_dget, Fin.kDs_dic, Fin.wR_dset, Fin.wR_lsI, Fin.kEn_ok, Fin.kEn_exc, Fin.wI_enum, Fin.kRev_ok, Fin.kRev_exc, Fin.wI_rev, Fin.kRr_1, Fin.wI_revr, Fin.kAx2_lst, Fin.kAx_ok, Fin.kAx1_lst, Fin.kAx0_i, Fin.b2T, Fin.isDic, Fin.flOf, Fin.biSorted, Fin.biSum, Fin.intsD_map, Fin.wBin, Fin.wCmp, Fin.binD_ii, Fin.binD_ss, Fin.binD_ll, Fin.binD_li, Fin.binI, Fin.dVal, Fin.mulOk_eq, Fin.powOk_eq, Fin.unD_neg, Fin.unD_inv, Fin.cmpD_eq, Fin.cmpD_ne, Fin.cmpD_lt, Fin.cmpD_le, Fin.cmpD_gt, Fin.cmpD_ge, Fin.cmpD_is, Fin.cmpD_isnot, Fin.cmpD_inl, Fin.cmpD_int, Fin.cmpD_nil, Fin.cmpD_nit, Fin.ixD_l, Fin.ixD_t, Fin.ixD_di, Fin.ixD_ds, Fin.dgD_i, Fin.dgD_s, Fin.isDct_k, Fin.atI_0, Fin.atI_1, Fin.atI_2, Fin.atI_3, Fin.biD, Fin.biLen, Fin.biInt, Fin.biAbs, Fin.biMin, Fin.biList, Fin.biTuple, Fin.isiD, Fin.mmD, Fin.mmAppend, Fin.isLst, Fin.isOwn, Fin.res, Fin.resL, Fin.frzS, Fin.hasSl, Fin.isVal_lst, Fin.isVal_dic, Fin.isVal_val, Fin.asVal, Fin.scalC, Fin.scalD, Fin.Cell.frz, Fin.setC_di, Fin.setC_ds, Fin.setC_l, Fin.bindL, List.length_map, Fin.initE, Fin.shp_int, Fin.shp_bool, Fin.shp_none, Fin.eqv_int, Fin.eqv_bool, Fin.eqv_bi, Fin.eqv_ib, Fin.isND_none, Fin.isND_int, Fin.isND_list, Fin.isND_tuple, Fin.revD_l, Fin.rev_map, Fin.back_val, Fin.back_none, Fin.filter_tt, List.map_cons, List.map_nil, List.length_cons, List.length_nil, List.getElem?_cons_zero, List.getElem?_cons_succ, List.set_cons_zero, List.set_cons_succ, List.replicate_succ, List.replicate_zero, List.cons_append, List.nil_append, Option.getD_some, Option.getD_none, Option.map_some, Option.map_none, Bool.and_true, Bool.true_and, Bool.and_false, Bool.false_and, Bool.and_self, Bool.not_true, Bool.not_false, Bool.true_eq_false, Bool.false_eq_true, Bool.not_eq_true', Bool.not_eq_false', if_true, if_false, ite_true, ite_false, true_and, and_true, false_and, and_false, true_implies, false_implies, implies_true, eq_self, decide_eq_true_eq, decide_eq_false_iff_not, decide_true, decide_false, bne_iff_ne, ne_eq, not_true_eq_false, not_false_eq_true, bne_eq_false_iff_eq, Option.some.injEq, Nat.zero_le, Nat.reduceAdd, Nat.reduceLeDiff, Nat.reduceLT, Nat.reduceBEq, Nat.reduceEqDiff, Int.reduceLE, Int.reduceLT, Int.reduceNeg, Int.reduceEq, g1, g2]
      rw [wsum_perm hperm] at g3
      simp [g3]
    · simp only [Fin.wO_some, Fin.wO_none, Fin.wO_if, Fin.wO_map, Fin.wE_eq, Fin.kO_d, Fin.kO_sl, Fin.kO_lst, Fin.kO_exc, Fin.wR_var, Fin.kVar_val, Fin.kVar_lst, Fin.kVar_dic, Fin.kVar_exc, Fin.kVar_pool, Fin.pres_d, Fin.pres_fr, Fin.pres_sl, Fin.pres_nx, Fin.pres_exc, Fin.kP_pool, Fin.flatD, Fin.flat_ints, Fin.inD_ints, Fin.shp_ints, Fin.shp_nil, Fin.eqv_ints, Fin.eqv_ints_nil, Fin.b2D, Fin.wR_int, Fin.wR_str, Fin.wR_bool, Fin.wR_none, Fin.wR_glob, Fin.kRd0_eq, Fin.w2_bin, Fin.w2_cmp, Fin.w2_ix, Fin.w2_b2, Fin.kO4_eq, Fin.kO3_eq, Fin.kO2_ok, Fin.kO2_exc, Fin.kO1_ok, Fin.kO1_exc, Fin.w1_un, Fin.w1_rev, Fin.w1_isi, Fin.w1_fb, Fin.kU2_eq, Fin.kU1_ok, Fin.kU1_exc, Fin.kH8_eq, Fin.kH7_eq, Fin.kH6_ok, Fin.kH6_exc, Fin.kH5_eq, Fin.kH4_eq, Fin.kH3_eq, Fin.kH2_ok, Fin.kH2_exc, Fin.kH1_ok, Fin.kH1_exc, Fin.wR_bin, Fin.wR_cmp, Fin.wR_ix, Fin.wR_chn, Fin.wR_un, Fin.wR_rev, Fin.wR_isi, Fin.wR_fb, Fin.wR_and, Fin.wR_or, Fin.wR_not, Fin.kAnd_b, Fin.kAnd_exc, Fin.kOr_b, Fin.kOr_exc, Fin.kNot_b, Fin.kNot_exc, Fin.kT_ok, Fin.kT_exc, Fin.kIte_ok, Fin.kIte_exc, Fin.kIteE_ok, Fin.kIteE_exc, Fin.kTand_ok, Fin.kTand_exc, Fin.kTor_ok, Fin.kTor_exc, Fin.kTnot_ok, Fin.kTnot_exc, Fin.kTv_ok, Fin.kTv_exc, Fin.kTb_b, Fin.kTb_i, Fin.kTb_l, Fin.kTb_t, Fin.kTb_n, Fin.kTb_s, Fin.kRv_eq, Fin.kRb_eq, Fin.kRd_eq, Fin.kCmp_eq, Fin.kCi_ok, Fin.kCi_exc, Fin.kFor_ok, Fin.kFor_exc, Fin.wR_ite, Fin.wT_val, Fin.wT_and, Fin.wT_or, Fin.wT_not, Fin.kTup3_eq, Fin.kTup2_eq, Fin.kTup_ok, Fin.kTup_exc, Fin.kLst3_eq, Fin.kLst2_eq, Fin.kLst_ok, Fin.kLst_exc, Fin.kBi2_eq, Fin.kBi_ok, Fin.kBi_exc, Fin.kBm3_eq, Fin.kBm2_ok, Fin.kBm2_exc, Fin.kBm1_eq, Fin.kBm_ok, Fin.kBm_exc, Fin.kMm4_eq, Fin.kMm3_lst, Fin.kMm2_eq, Fin.kMm1_eq, Fin.kMm_ok, Fin.kMm_exc, Fin.kSl4_eq, Fin.kSl3_eq, Fin.kSl2_eq, Fin.kSl1_ok, Fin.kSl1_exc, Fin.kB2_eq, Fin.kB1_ok, Fin.kB1_exc, Fin.kG7_eq, Fin.kG6_eq, Fin.kG5_eq, Fin.kG4_eq, Fin.kG3_ok, Fin.kG3_exc, Fin.kG2_ok, Fin.kG2_exc, Fin.kG1_eq, Fin.kG0_ok, Fin.kG0_exc, Fin.kD6_eq, Fin.kD5_eq, Fin.kD4_eq, Fin.kD3_eq, Fin.kD2_ok, Fin.kD2_exc, Fin.kD1_ok, Fin.kD1_exc, Fin.kC3_eq, Fin.kC2_eq, Fin.kC1_ok, Fin.kC1_exc, Fin.kMv2_eq, Fin.kMv_sl, Fin.kMv_exc, Fin.wEs_nil, Fin.kEs_ok, Fin.kEs_exc, Fin.kEc_ok, Fin.kEc_exc, Fin.wEs_cons, Fin.wR_tup, Fin.wR_lst, Fin.wR_bi, Fin.wR_bm, Fin.wR_mm, Fin.wR_sl, Fin.wSl_non, Fin.wSl_some, Fin.kSl_i, Fin.wR_dic0, Fin.kIsx_e, Fin.wR_isx, Fin.kP_val, Fin.kP_lst, Fin.kP_dic, Fin.kP_exc, Fin.kM_ok, Fin.kM_exc, Fin.kMc_c, Fin.isVal_pool, Fin.wR_comp, Fin.kI_ok, Fin.kI_exc, Fin.kIs_ok, Fin.kIs_exc, Fin.wI_seq, Fin.wI_rng, Fin.kRg_1, Fin.kRg_2, Fin.wS_seq, Fin.kSeq_nx, Fin.kSeq_rt, Fin.kSeq_exc, Fin.kSeq_bk, Fin.kSeq_ct, Fin.wS_pass, Fin.wS_brk, Fin.wS_cnt, Fin.wS_retN, Fin.wS_raise, Fin.kEx_ok, Fin.kEx_exc, Fin.wS_expr, Fin.kRet_ok, Fin.kRet_exc, Fin.wS_ret, Fin.kSet_d, Fin.kSet_fr, Fin.kSet_sl, Fin.kSet_exc, Fin.wS_set, Fin.kUnp_ok, Fin.kUnp_exc, Fin.wS_unp, Fin.kAug_ok, Fin.kAug_exc, Fin.kAugV_val, Fin.wS_aug, Fin.wS_ite, Fin.wS_for, Fin.wS_whl, Fin.kSx2_c, Fin.kSx1_d, Fin.kSx1_exc, Fin.kSx_ok, Fin.kSx_exc, Fin.wS_setIx, Fin.wS_tryx, Fin.wS_tryas, Fin.kTas_nx, Fin.kTas_rt, Fin.kTas_exc, Fin.kLp_nx, Fin.kLp_ct, Fin.kLp_bk, Fin.kLp_rt, Fin.kLp_exc, Fin.wBind_one, Fin.wBind_many, Fin.kV_d, Fin.wR_b2, Fin.wR_dget, Fin.kDs_dic, Fin.wR_dset, Fin.wR_lsI, Fin.kEn_ok, Fin.kEn_exc, Fin.wI_enum, Fin.kRev_ok, Fin.kRev_exc, Fin.wI_rev, Fin.kRr_1, Fin.wI_revr, Fin.kAx2_lst, Fin.kAx_ok, Fin.kAx1_lst, Fin.kAx0_i, Fin.b2T, Fin.isDic, Fin.flOf, Fin.biSorted, Fin.biSum, Fin.intsD_map, Fin.wBin, Fin.wCmp, Fin.binD_ii, Fin.binD_ss, Fin.binD_ll, Fin.binD_li, Fin.binI, Fin.dVal, Fin.mulOk_eq, Fin.powOk_eq, Fin.unD_neg, Fin.unD_inv, Fin.cmpD_eq, Fin.cmpD_ne, Fin.cmpD_lt, Fin.cmpD_le, Fin.cmpD_gt, Fin.cmpD_ge, Fin.cmpD_is, Fin.cmpD_isnot, Fin.cmpD_inl, Fin.cmpD_int, Fin.cmpD_nil, Fin.cmpD_nit, Fin.ixD_l, Fin.ixD_t, Fin.ixD_di, Fin.ixD_ds, Fin.dgD_i, Fin.dgD_s, Fin.isDct_k, Fin.atI_0, Fin.atI_1, Fin.atI_2, Fin.atI_3, Fin.biD, Fin.biLen, Fin.biInt, Fin.biAbs, Fin.biMin, Fin.biList, Fin.biTuple, Fin.isiD, Fin.mmD, Fin.mmAppend, Fin.isLst, Fin.isOwn, Fin.res, Fin.resL, Fin.frzS, Fin.hasSl, Fin.isVal_lst, Fin.isVal_dic, Fin.isVal_val, Fin.asVal, Fin.scalC, Fin.scalD, Fin.Cell.frz, Fin.setC_di, Fin.setC_ds, Fin.setC_l, Fin.bindL, List.length_map, Fin.initE, Fin.shp_int, Fin.shp_bool, Fin.shp_none, Fin.eqv_int, Fin.eqv_bool, Fin.eqv_bi, Fin.eqv_ib, Fin.isND_none, Fin.isND_int, Fin.isND_list, Fin.isND_tuple, Fin.revD_l, Fin.rev_map, Fin.back_val, Fin.back_none, Fin.filter_tt, List.map_cons, List.map_nil, List.length_cons, List.length_nil, List.getElem?_cons_zero, List.getElem?_cons_succ, List.set_cons_zero, List.set_cons_succ, List.replicate_succ, List.replicate_zero, List.cons_append, List.nil_append, Option.getD_some, Option.getD_none, Option.map_some, Option.map_none, Bool.and_true, Bool.true_and, Bool.and_false, Bool.false_and, Bool.and_self, Bool.not_true, Bool.not_false, Bool.true_eq_false, Bool.false_eq_true, Bool.not_eq_true', Bool.not_eq_false', if_true, if_false, ite_true, ite_false, true_and, and_true, false_and, and_false, true_implies, false_implies, implies_true, eq_self, decide_eq_true_eq, decide_eq_false_iff_not, decide_true, decide_false, bne_iff_ne, ne_eq, not_true_eq_false, not_false_eq_true, bne_eq_false_iff_eq, Option.some.injEq, Nat.zero_le, Nat.reduceAdd, Nat.reduceLeDiff, Nat.reduceLT, Nat.reduceBEq, Nat.reduceEqDiff, Int.reduceLE, Int.reduceLT, Int.reduceNeg, Int.reduceEq]
      unfold cmpd
      simp [Function.comp_def]

theorem wgt_at (a b : Int) : L2.atI [PyData.int 0, .int 1, .int 2] ((if a ≤ b then 1 else 0) + (if a < b then 1 else 0)) = some (.int (wgt a b)) := by
  unfold wgt
  by_cases h : a < b
  · rw [if_pos (by omega), if_pos h, if_pos h]; exact atI_2 _ _ _ _
  · by_cases h2 : a = b
    · subst h2; rw [if_pos (by omega), if_neg h, if_neg h, if_pos rfl]; exact atI_1 _ _ _
    · rw [if_neg (by omega), if_neg h, if_neg h, if_neg h2]; exact atI_0 _ _
theorem wsum_snoc (xs : List Int) (y p : Int) : wsum (xs ++ [y]) p = wsum xs p + wgt y p := by simp [wsum]
theorem law_true (ns : List Int) (hns : ns.length ≤ 63) : runP fxL fuel 10 s_law [flI ns] = some (.ok (.val (.bool true))) := by
  obtain ⟨ms, hp, hpool⟩ := pool_ok fx_law_numbers hd.fx fuel fuel l_law_pool_law_numbers ns hns
  refine runP_w ?_
  unfold s_law f3_law
  simp only [Fin.wO_some, Fin.wO_none, Fin.wO_if, Fin.wO_map, Fin.wE_eq, Fin.kO_d, Fin.kO_sl, Fin.kO_lst, Fin.kO_exc, Fin.wR_var, Fin.kVar_val, Fin.kVar_lst, Fin.kVar_dic, Fin.kVar_exc, Fin.kVar_pool, Fin.pres_d, Fin.pres_fr, Fin.pres_sl, Fin.pres_nx, Fin.pres_exc, Fin.kP_pool, Fin.flatD, Fin.flat_ints, Fin.inD_ints, Fin.shp_ints, Fin.shp_nil, Fin.eqv_ints, Fin.eqv_ints_nil, Fin.b2D, Fin.wR_int, Fin.wR_str, Fin.wR_bool, Fin.wR_none, Fin.wR_glob, Fin.kRd0_eq, Fin.w2_bin, Fin.w2_cmp, Fin.w2_ix, Fin.w2_b2, Fin.kO4_eq, Fin.kO3_eq, Fin.kO2_ok, Fin.kO2_exc, Fin.kO1_ok, Fin.kO1_exc, Fin.w1_un, Fin.w1_rev, Fin.w1_isi, Fin.w1_fb, Fin.kU2_eq, Fin.kU1_ok, Fin.kU1_exc, Fin.kH8_eq, Fin.kH7_eq, Fin.kH6_ok, Fin.kH6_exc, Fin.kH5_eq, Fin.kH4_eq, Fin.kH3_eq, Fin.kH2_ok, Fin.kH2_exc, Fin.kH1_ok, Fin.kH1_exc, Fin.wR_bin, Fin.wR_cmp, Fin.wR_ix, Fin.wR_chn, Fin.wR_un, Fin.wR_rev, Fin.wR_isi, Fin.wR_fb, Fin.wR_and, Fin.wR_or, Fin.wR_not, Fin.kAnd_b, Fin.kAnd_exc, Fin.kOr_b, Fin.kOr_exc, Fin.kNot_b, Fin.kNot_exc, Fin.kT_ok, Fin.kT_exc, Fin.kIte_ok, Fin.kIte_exc, Fin.kIteE_ok, Fin.kIteE_exc, Fin.kTand_ok, Fin.kTand_exc, Fin.kTor_ok, Fin.kTor_exc, Fin.kTnot_ok, Fin.kTnot_exc, Fin.kTv_ok, Fin.kTv_exc, Fin.kTb_b, Fin.kTb_i, Fin.kTb_l, Fin.kTb_t, Fin.kTb_n, Fin.kTb_s, Fin.kRv_eq, Fin.kRb_eq, Fin.kRd_eq, Fin.kCmp_eq, Fin.kCi_ok, Fin.kCi_exc, Fin.kFor_ok, Fin.kFor_exc, Fin.wR_ite, Fin.wT_val, Fin.wT_and, Fin.wT_or, Fin.wT_not, Fin.kTup3_eq, Fin.kTup2_eq, Fin.kTup_ok, Fin.kTup_exc, Fin.kLst3_eq, Fin.kLst2_eq, Fin.kLst_ok, Fin.kLst_exc, Fin.kBi2_eq, Fin.kBi_ok, Fin.kBi_exc, Fin.kBm3_eq, Fin.kBm2_ok, Fin.kBm2_exc, Fin.kBm1_eq, Fin.kBm_ok, Fin.kBm_exc, Fin.kMm4_eq, Fin.kMm3_lst, Fin.kMm2_eq, Fin.kMm1_eq, Fin.kMm_ok, Fin.kMm_exc, Fin.kSl4_eq, Fin.kSl3_eq, Fin.kSl2_eq, Fin.kSl1_ok, Fin.kSl1_exc, Fin.kB2_eq, Fin.kB1_ok, Fin.kB1_exc, Fin.kG7_eq, Fin.kG6_eq, Fin.kG5_eq, Fin.kG4_eq, Fin.kG3_ok, Fin.kG3_exc, Fin.kG2_ok, Fin.kG2_exc, Fin.kG1_eq, Fin.kG0_ok, Fin.kG0_exc, Fin.kD6_eq, Fin.kD5_eq, Fin.kD4_eq, Fin.kD3_eq, Fin.kD2_ok, Fin.kD2_exc, Fin.kD1_ok, Fin.kD1_exc, Fin.kC3_eq, Fin.kC2_eq, Fin.kC1_ok, Fin.kC1_exc, Fin.kMv2_eq, Fin.kMv_sl, Fin.kMv_exc, Fin.wEs_nil, Fin.kEs_ok, Fin.kEs_exc, Fin.kEc_ok, Fin.kEc_exc, Fin.wEs_cons, Fin.wR_tup, Fin.wR_lst, Fin.wR_bi, Fin.wR_bm, Fin.wR_mm, Fin.wR_sl, Fin.wSl_non, Fin.wSl_some, Fin.kSl_i, Fin.wR_dic0, Fin.kIsx_e, Fin.wR_isx, Fin.kP_val, Fin.kP_lst, Fin.kP_dic, Fin.kP_exc, Fin.kM_ok, Fin.kM_exc, Fin.kMc_c, Fin.isVal_pool, Fin.wR_comp, Fin.kI_ok, Fin.kI_exc, Fin.kIs_ok, Fin.kIs_exc, Fin.wI_seq, Fin.wI_rng, Fin.kRg_1, Fin.kRg_2, Fin.wS_seq, Fin.kSeq_nx, Fin.kSeq_rt, Fin.kSeq_exc, Fin.kSeq_bk, Fin.kSeq_ct, Fin.wS_pass, Fin.wS_brk, Fin.wS_cnt, Fin.wS_retN, Fin.wS_raise, Fin.kEx_ok, Fin.kEx_exc, Fin.wS_expr, Fin.kRet_ok, Fin.kRet_exc, Fin.wS_ret, Fin.kSet_d, Fin.kSet_fr, Fin.kSet_sl, Fin.kSet_exc, Fin.wS_set, Fin.kUnp_ok, Fin.kUnp_exc, Fin.wS_unp, Fin.kAug_ok, Fin.kAug_exc, Fin.kAugV_val, Fin.wS_aug, Fin.wS_ite, Fin.wS_for, Fin.wS_whl, Fin.kSx2_c, Fin.kSx1_d, Fin.kSx1_exc, Fin.kSx_ok, Fin.kSx_exc, Fin.wS_setIx, Fin.wS_tryx, Fin.wS_tryas, Fin.kTas_nx, Fin.kTas_rt, Fin.kTas_exc, Fin.kLp_nx, Fin.kLp_ct, Fin.kLp_bk, Fin.kLp_rt, Fin.kLp_exc, Fin.wBind_one, Fin.wBind_many, Fin.kV_d, Fin.wR_b2, Fin.wR_dget, Fin.kDs_dic, Fin.wR_dset, Fin.wR_lsI, Fin.kEn_ok, Fin.kEn_exc, Fin.wI_enum, Fin.kRev_ok, Fin.kRev_exc, Fin.wI_rev, Fin.kRr_1, Fin.wI_revr, Fin.kAx2_lst, Fin.kAx_ok, Fin.kAx1_lst, Fin.kAx0_i, Fin.b2T, Fin.isDic, Fin.flOf, Fin.biSorted, Fin.biSum, Fin.intsD_map, Fin.wBin, Fin.wCmp, Fin.binD_ii, Fin.binD_ss, Fin.binD_ll, Fin.binD_li, Fin.binI, Fin.dVal, Fin.mulOk_eq, Fin.powOk_eq, Fin.unD_neg, Fin.unD_inv, Fin.cmpD_eq, Fin.cmpD_ne, Fin.cmpD_lt, Fin.cmpD_le, Fin.cmpD_gt, Fin.cmpD_ge, Fin.cmpD_is, Fin.cmpD_isnot, Fin.cmpD_inl, Fin.cmpD_int, Fin.cmpD_nil, Fin.cmpD_nit, Fin.ixD_l, Fin.ixD_t, Fin.ixD_di, Fin.ixD_ds, Fin.dgD_i, Fin.dgD_s, Fin.isDct_k, Fin.atI_0, Fin.atI_1, Fin.atI_2, Fin.atI_3, Fin.biD, Fin.biLen, Fin.biInt, Fin.biAbs, Fin.biMin, Fin.biList, Fin.biTuple, Fin.isiD, Fin.mmD, Fin.mmAppend, Fin.isLst, Fin.isOwn, Fin.res, Fin.resL, Fin.frzS, Fin.hasSl, Fin.isVal_lst, Fin.isVal_dic, Fin.isVal_val, Fin.asVal, Fin.scalC, Fin.scalD, Fin.Cell.frz, Fin.setC_di, Fin.setC_ds, Fin.setC_l, Fin.bindL, List.length_map, Fin.initE, Fin.shp_int, Fin.shp_bool, Fin.shp_none, Fin.eqv_int, Fin.eqv_bool, Fin.eqv_bi, Fin.eqv_ib, Fin.isND_none, Fin.isND_int, Fin.isND_list, Fin.isND_tuple, Fin.revD_l, Fin.rev_map, Fin.back_val, Fin.back_none, Fin.filter_tt, List.map_cons, List.map_nil, List.length_cons, List.length_nil, List.getElem?_cons_zero, List.getElem?_cons_succ, List.set_cons_zero, List.set_cons_succ, List.replicate_succ, List.replicate_zero, List.cons_append, List.nil_append, Option.getD_some, Option.getD_none, Option.map_some, Option.map_none, Bool.and_true, Bool.true_and, Bool.and_false, Bool.false_and, Bool.and_self, Bool.not_true, Bool.not_false, Bool.true_eq_false, Bool.false_eq_true, Bool.not_eq_true', Bool.not_eq_false', if_true, if_false, ite_true, ite_false, true_and, and_true, false_and, and_false, true_implies, false_implies, implies_true, eq_self, decide_eq_true_eq, decide_eq_false_iff_not, decide_true, decide_false, bne_iff_ne, ne_eq, not_true_eq_false, not_false_eq_true, bne_eq_false_iff_eq, Option.some.injEq, Nat.zero_le, Nat.reduceAdd, Nat.reduceLeDiff, Nat.reduceLT, Nat.reduceBEq, Nat.reduceEqDiff, Int.reduceLE, Int.reduceLT, Int.reduceNeg, Int.reduceEq, okS_l (T := fxL) rfl, wC l_law_law_pool, hp]
  refine wFor_rng (fun j e => ∃ (at_ : Int) (c2 c3 c4 c5 c6 c7 c8 c9 : Option Cell), 0 ≤ at_ ∧ at_ ≤ 40 * j ∧ e = [some (.val (flI ns)), some (poolC ms at_), c2, c3, c4, c5, c6, c7, c8, c9]) ⟨0, none, none, none, none, none, none, none, none, by omega, by omega, rfl⟩ ?_ ?_
  · rintro j e hj ⟨at_, c2, c3, c4, c5, c6, c7, c8, c9, ha0, ha1, rfl⟩
    unfold b4_law
    simp only [Fin.wO_some, Fin.wO_none, Fin.wO_if, Fin.wO_map, Fin.wE_eq, Fin.kO_d, Fin.kO_sl, Fin.kO_lst, Fin.kO_exc, Fin.wR_var, Fin.kVar_val, Fin.kVar_lst, Fin.kVar_dic, Fin.kVar_exc, Fin.kVar_pool, Fin.pres_d, Fin.pres_fr, Fin.pres_sl, Fin.pres_nx, Fin.pres_exc, Fin.kP_pool, Fin.flatD, Fin.flat_ints, Fin.inD_ints, Fin.shp_ints, Fin.shp_nil, Fin.eqv_ints, Fin.eqv_ints_nil, Fin.b2D, Fin.wR_int, Fin.wR_str, Fin.wR_bool, Fin.wR_none, Fin.wR_glob, Fin.kRd0_eq, Fin.w2_bin, Fin.w2_cmp, Fin.w2_ix, Fin.w2_b2, Fin.kO4_eq, Fin.kO3_eq, Fin.kO2_ok, Fin.kO2_exc, Fin.kO1_ok, Fin.kO1_exc, Fin.w1_un, Fin.w1_rev, Fin.w1_isi, Fin.w1_fb, Fin.kU2_eq, Fin.kU1_ok, Fin.kU1_exc, Fin.kH8_eq, Fin.kH7_eq, Fin.kH6_ok, Fin.kH6_exc, Fin.kH5_eq, Fin.kH4_eq, Fin.kH3_eq, Fin.kH2_ok, Fin.kH2_exc, Fin.kH1_ok, Fin.kH1_exc, Fin.wR_bin, Fin.wR_cmp, Fin.wR_ix, Fin.wR_chn, Fin.wR_un, Fin.wR_rev, Fin.wR_isi, Fin.wR_fb, Fin.wR_and, Fin.wR_or, Fin.wR_not, Fin.kAnd_b, Fin.kAnd_exc, Fin.kOr_b, Fin.kOr_exc, Fin.kNot_b, Fin.kNot_exc, Fin.kT_ok, Fin.kT_exc, Fin.kIte_ok, Fin.kIte_exc, Fin.kIteE_ok, Fin.kIteE_exc, Fin.kTand_ok, Fin.kTand_exc, Fin.kTor_ok, Fin.kTor_exc, Fin.kTnot_ok, Fin.kTnot_exc, Fin.kTv_ok, Fin.kTv_exc, Fin.kTb_b, Fin.kTb_i, Fin.kTb_l, Fin.kTb_t, Fin.kTb_n, Fin.kTb_s, Fin.kRv_eq, Fin.kRb_eq, Fin.kRd_eq, Fin.kCmp_eq, Fin.kCi_ok, Fin.kCi_exc, Fin.kFor_ok, Fin.kFor_exc, Fin.wR_ite, Fin.wT_val, Fin.wT_and, Fin.wT_or, Fin.wT_not, Fin.kTup3_eq, Fin.kTup2_eq, Fin.kTup_ok, Fin.kTup_exc, Fin.kLst3_eq, Fin.kLst2_eq, Fin.kLst_ok, Fin.kLst_exc, Fin.kBi2_eq, Fin.kBi_ok, Fin.kBi_exc, Fin.kBm3_eq, Fin.kBm2_ok, Fin.kBm2_exc, Fin.kBm1_eq, Fin.kBm_ok, Fin.kBm_exc, Fin.kMm4_eq, Fin.kMm3_lst, Fin.kMm2_eq, Fin.kMm1_eq, Fin.kMm_ok, Fin.kMm_exc, Fin.kSl4_eq, Fin.kSl3_eq, Fin.kSl2_eq, Fin.kSl1_ok, Fin.kSl1_exc, Fin.kB2_eq, Fin.kB1_ok, Fin.kB1_exc, Fin.kG7_eq, Fin.kG6_eq, Fin.kG5_eq, Fin.kG4_eq, Fin.kG3_ok, Fin.kG3_exc, Fin.kG2_ok, Fin.kG2_exc, Fin.kG1_eq, Fin.kG0_ok, Fin.kG0_exc, Fin.kD6_eq, Fin.kD5_eq, Fin.kD4_eq, Fin.kD3_eq, Fin.kD2_ok, Fin.kD2_exc, Fin.kD1_ok, Fin.kD1_exc, Fin.kC3_eq, Fin.kC2_eq, Fin.kC1_ok, Fin.kC1_exc, Fin.kMv2_eq, Fin.kMv_sl, Fin.kMv_exc, Fin.wEs_nil, Fin.kEs_ok, Fin.kEs_exc, Fin.kEc_ok, Fin.kEc_exc, Fin.wEs_cons, Fin.wR_tup, Fin.wR_lst, Fin.wR_bi, Fin.wR_bm, Fin.wR_mm, Fin.wR_sl, Fin.wSl_non, Fin.wSl_some, Fin.kSl_i, Fin.wR_dic0, Fin.kIsx_e, Fin.wR_isx, Fin.kP_val, Fin.kP_lst, Fin.kP_dic, Fin.kP_exc, Fin.kM_ok, Fin.kM_exc, Fin.kMc_c, Fin.isVal_pool, Fin.wR_comp, Fin.kI_ok, Fin.kI_exc, Fin.kIs_ok, Fin.kIs_exc, Fin.wI_seq, Fin.wI_rng, Fin.kRg_1, Fin.kRg_2, Fin.wS_seq, Fin.kSeq_nx, Fin.kSeq_rt, Fin.kSeq_exc, Fin.kSeq_bk, Fin.kSeq_ct, Fin.wS_pass, Fin.wS_brk, Fin.wS_cnt, Fin.wS_retN, Fin.wS_raise, Fin.kEx_ok, Fin.kEx_exc, Fin.wS_expr, Fin.kRet_ok, Fin.kRet_exc, Fin.wS_ret, Fin.kSet_d, Fin.kSet_fr, Fin.kSet_sl, Fin.kSet_exc, Fin.wS_set, Fin.kUnp_ok, Fin.kUnp_exc, Fin.wS_unp, Fin.kAug_ok, Fin.kAug_exc, Fin.kAugV_val, Fin.wS_aug, Fin.wS_ite, Fin.wS_for, Fin.wS_whl, Fin.kSx2_c, Fin.kSx1_d, Fin.kSx1_exc, Fin.kSx_ok, Fin.kSx_exc, Fin.wS_setIx, Fin.wS_tryx, Fin.wS_tryas, Fin.kTas_nx, Fin.kTas_rt, Fin.kTas_exc, Fin.kLp_nx, Fin.kLp_ct, Fin.kLp_bk, Fin.kLp_rt, Fin.kLp_exc, Fin.wBind_one, Fin.wBind_many, Fin.kV_d, Fin.wR_b2, Fin.wR_dget, Fin.kDs_dic, Fin.wR_dset, Fin.wR_lsI, Fin.kEn_ok, Fin.kEn_exc, Fin.wI_enum, Fin.kRev_ok, Fin.kRev_exc, Fin.wI_rev, Fin.kRr_1, Fin.wI_revr, Fin.kAx2_lst, Fin.kAx_ok, Fin.kAx1_lst, Fin.kAx0_i, Fin.b2T, Fin.isDic, Fin.flOf, Fin.biSorted, Fin.biSum, Fin.intsD_map, Fin.wBin, Fin.wCmp, Fin.binD_ii, Fin.binD_ss, Fin.binD_ll, Fin.binD_li, Fin.binI, Fin.dVal, Fin.mulOk_eq, Fin.powOk_eq, Fin.unD_neg, Fin.unD_inv, Fin.cmpD_eq, Fin.cmpD_ne, Fin.cmpD_lt, Fin.cmpD_le, Fin.cmpD_gt, Fin.cmpD_ge, Fin.cmpD_is, Fin.cmpD_isnot, Fin.cmpD_inl, Fin.cmpD_int, Fin.cmpD_nil, Fin.cmpD_nit, Fin.ixD_l, Fin.ixD_t, Fin.ixD_di, Fin.ixD_ds, Fin.dgD_i, Fin.dgD_s, Fin.isDct_k, Fin.atI_0, Fin.atI_1, Fin.atI_2, Fin.atI_3, Fin.biD, Fin.biLen, Fin.biInt, Fin.biAbs, Fin.biMin, Fin.biList, Fin.biTuple, Fin.isiD, Fin.mmD, Fin.mmAppend, Fin.isLst, Fin.isOwn, Fin.res, Fin.resL, Fin.frzS, Fin.hasSl, Fin.isVal_lst, Fin.isVal_dic, Fin.isVal_val, Fin.asVal, Fin.scalC, Fin.scalD, Fin.Cell.frz, Fin.setC_di, Fin.setC_ds, Fin.setC_l, Fin.bindL, List.length_map, Fin.initE, Fin.shp_int, Fin.shp_bool, Fin.shp_none, Fin.eqv_int, Fin.eqv_bool, Fin.eqv_bi, Fin.eqv_ib, Fin.isND_none, Fin.isND_int, Fin.isND_list, Fin.isND_tuple, Fin.revD_l, Fin.rev_map, Fin.back_val, Fin.back_none, Fin.filter_tt, List.map_cons, List.map_nil, List.length_cons, List.length_nil, List.getElem?_cons_zero, List.getElem?_cons_succ, List.set_cons_zero, List.set_cons_succ, List.replicate_succ, List.replicate_zero, List.cons_append, List.nil_append, Option.getD_some, Option.getD_none, Option.map_some, Option.map_none, Bool.and_true, Bool.true_and, Bool.and_false, Bool.false_and, Bool.and_self, Bool.not_true, Bool.not_false, Bool.true_eq_false, Bool.false_eq_true, Bool.not_eq_true', Bool.not_eq_false', if_true, if_false, ite_true, ite_false, true_and, and_true, false_and, and_false, true_implies, false_implies, implies_true, eq_self, decide_eq_true_eq, decide_eq_false_iff_not, decide_true, decide_false, bne_iff_ne, ne_eq, not_true_eq_false, not_false_eq_true, bne_eq_false_iff_eq, Option.some.injEq, Nat.zero_le, Nat.reduceAdd, Nat.reduceLeDiff, Nat.reduceLT, Nat.reduceBEq, Nat.reduceEqDiff, Int.reduceLE, Int.reduceLT, Int.reduceNeg, Int.reduceEq, okS_l (T := fxL) rfl, wCm l_law_law_pick]
    refine pick_w hpool ha0 (by omega) (by omega) fun m m1 m2 => ?_
    obtain ⟨many, hmany⟩ : ∃ k : Nat, 1 + m = (k : Int) := ⟨(1 + m).toNat, by omega⟩
    unfold c1_law
    simp only [Fin.wO_some, Fin.wO_none, Fin.wO_if, Fin.wO_map, Fin.wE_eq, Fin.kO_d, Fin.kO_sl, Fin.kO_lst, Fin.kO_exc, Fin.wR_var, Fin.kVar_val, Fin.kVar_lst, Fin.kVar_dic, Fin.kVar_exc, Fin.kVar_pool, Fin.pres_d, Fin.pres_fr, Fin.pres_sl, Fin.pres_nx, Fin.pres_exc, Fin.kP_pool, Fin.flatD, Fin.flat_ints, Fin.inD_ints, Fin.shp_ints, Fin.shp_nil, Fin.eqv_ints, Fin.eqv_ints_nil, Fin.b2D, Fin.wR_int, Fin.wR_str, Fin.wR_bool, Fin.wR_none, Fin.wR_glob, Fin.kRd0_eq, Fin.w2_bin, Fin.w2_cmp, Fin.w2_ix, Fin.w2_b2, Fin.kO4_eq, Fin.kO3_eq, Fin.kO2_ok, Fin.kO2_exc, Fin.kO1_ok, Fin.kO1_exc, Fin.w1_un, Fin.w1_rev, Fin.w1_isi, Fin.w1_fb, Fin.kU2_eq, Fin.kU1_ok, Fin.kU1_exc, Fin.kH8_eq, Fin.kH7_eq, Fin.kH6_ok, Fin.kH6_exc, Fin.kH5_eq, Fin.kH4_eq, Fin.kH3_eq, Fin.kH2_ok, Fin.kH2_exc, Fin.kH1_ok, Fin.kH1_exc, Fin.wR_bin, Fin.wR_cmp, Fin.wR_ix, Fin.wR_chn, Fin.wR_un, Fin.wR_rev, Fin.wR_isi, Fin.wR_fb, Fin.wR_and, Fin.wR_or, Fin.wR_not, Fin.kAnd_b, Fin.kAnd_exc, Fin.kOr_b, Fin.kOr_exc, Fin.kNot_b, Fin.kNot_exc, Fin.kT_ok, Fin.kT_exc, Fin.kIte_ok, Fin.kIte_exc, Fin.kIteE_ok, Fin.kIteE_exc, Fin.kTand_ok, Fin.kTand_exc, Fin.kTor_ok, Fin.kTor_exc, Fin.kTnot_ok, Fin.kTnot_exc, Fin.kTv_ok, Fin.kTv_exc, Fin.kTb_b, Fin.kTb_i, Fin.kTb_l, Fin.kTb_t, Fin.kTb_n, Fin.kTb_s, Fin.kRv_eq, Fin.kRb_eq, Fin.kRd_eq, Fin.kCmp_eq, Fin.kCi_ok, Fin.kCi_exc, Fin.kFor_ok, Fin.kFor_exc, Fin.wR_ite, Fin.wT_val, Fin.wT_and, Fin.wT_or, Fin.wT_not, Fin.kTup3_eq, Fin.kTup2_eq, Fin.kTup_ok, Fin.kTup_exc, Fin.kLst3_eq, Fin.kLst2_eq, Fin.kLst_ok, Fin.kLst_exc, Fin.kBi2_eq, Fin.kBi_ok, Fin.kBi_exc, Fin.kBm3_eq, Fin.kBm2_ok, Fin.kBm2_exc, Fin.kBm1_eq, Fin.kBm_ok, Fin.kBm_exc, Fin.kMm4_eq, Fin.kMm3_lst, Fin.kMm2_eq, Fin.kMm1_eq, Fin.kMm_ok, Fin.kMm_exc, Fin.kSl4_eq, Fin.kSl3_eq, Fin.kSl2_eq, Fin.kSl1_ok, Fin.kSl1_exc, Fin.kB2_eq, Fin.kB1_ok, Fin.kB1_exc, Fin.kG7_eq, Fin.kG6_eq, Fin.kG5_eq, Fin.kG4_eq, Fin.kG3_ok, Fin.kG3_exc, Fin.kG2_ok, Fin.kG2_exc, Fin.kG1_eq, Fin.kG0_ok, Fin.kG0_exc, Fin.kD6_eq, Fin.kD5_eq, Fin.kD4_eq, Fin.kD3_eq, Fin.kD2_ok, Fin.kD2_exc, Fin.kD1_ok, Fin.kD1_exc, Fin.kC3_eq, Fin.kC2_eq, Fin.kC1_ok, Fin.kC1_exc, Fin.kMv2_eq, Fin.kMv_sl, Fin.kMv_exc, Fin.wEs_nil, Fin.kEs_ok, Fin.kEs_exc, Fin.kEc_ok, Fin.kEc_exc, Fin.wEs_cons, Fin.wR_tup, Fin.wR_lst, Fin.wR_bi, Fin.wR_bm, Fin.wR_mm, Fin.wR_sl, Fin.wSl_non, Fin.wSl_some, Fin.kSl_i, Fin.wR_dic0, Fin.kIsx_e, Fin.wR_isx, Fin.kP_val, Fin.kP_lst, Fin.kP_dic, Fin.kP_exc, Fin.kM_ok, Fin.kM_exc, Fin.kMc_c, Fin.isVal_pool, Fin.wR_comp, Fin.kI_ok, Fin.kI_exc, Fin.kIs_ok, Fin.kIs_exc, Fin.wI_seq, Fin.wI_rng, Fin.kRg_1, Fin.kRg_2, Fin.wS_seq, Fin.kSeq_nx, Fin.kSeq_rt, Fin.kSeq_exc, Fin.kSeq_bk, Fin.kSeq_ct, Fin.wS_pass, Fin.wS_brk, Fin.wS_cnt, Fin.wS_retN, Fin.wS_raise, Fin.kEx_ok, Fin.kEx_exc, Fin.wS_expr, Fin.kRet_ok, Fin.kRet_exc, Fin.wS_ret, Fin.kSet_d, Fin.kSet_fr, Fin.kSet_sl, Fin.kSet_exc, Fin.wS_set, Fin.kUnp_ok, Fin.kUnp_exc, Fin.wS_unp, Fin.kAug_ok, Fin.kAug_exc, Fin.kAugV_val, Fin.wS_aug, Fin.wS_ite, Fin.wS_for, Fin.wS_whl, Fin.kSx2_c, Fin.kSx1_d, Fin.kSx1_exc, Fin.kSx_ok, Fin.kSx_exc, Fin.wS_setIx, Fin.wS_tryx, Fin.wS_tryas, Fin.kTas_nx, Fin.kTas_rt, Fin.kTas_exc, Fin.kLp_nx, Fin.kLp_ct, Fin.kLp_bk, Fin.kLp_rt, Fin.kLp_exc, Fin.wBind_one, Fin.wBind_many, Fin.kV_d, Fin.wR_b2, Fin.wR_dget, Fin.kDs_dic, Fin.wR_dset, Fin.wR_lsI, Fin.kEn_ok, Fin.kEn_exc, Fin.wI_enum, Fin.kRev_ok, Fin.kRev_exc, Fin.wI_rev, Fin.kRr_1, Fin.wI_revr, Fin.kAx2_lst, Fin.kAx_ok, Fin.kAx1_lst, Fin.kAx0_i, Fin.b2T, Fin.isDic, Fin.flOf, Fin.biSorted, Fin.biSum, Fin.intsD_map, Fin.wBin, Fin.wCmp, Fin.binD_ii, Fin.binD_ss, Fin.binD_ll, Fin.binD_li, Fin.binI, Fin.dVal, Fin.mulOk_eq, Fin.powOk_eq, Fin.unD_neg, Fin.unD_inv, Fin.cmpD_eq, Fin.cmpD_ne, Fin.cmpD_lt, Fin.cmpD_le, Fin.cmpD_gt, Fin.cmpD_ge, Fin.cmpD_is, Fin.cmpD_isnot, Fin.cmpD_inl, Fin.cmpD_int, Fin.cmpD_nil, Fin.cmpD_nit, Fin.ixD_l, Fin.ixD_t, Fin.ixD_di, Fin.ixD_ds, Fin.dgD_i, Fin.dgD_s, Fin.isDct_k, Fin.atI_0, Fin.atI_1, Fin.atI_2, Fin.atI_3, Fin.biD, Fin.biLen, Fin.biInt, Fin.biAbs, Fin.biMin, Fin.biList, Fin.biTuple, Fin.isiD, Fin.mmD, Fin.mmAppend, Fin.isLst, Fin.isOwn, Fin.res, Fin.resL, Fin.frzS, Fin.hasSl, Fin.isVal_lst, Fin.isVal_dic, Fin.isVal_val, Fin.asVal, Fin.scalC, Fin.scalD, Fin.Cell.frz, Fin.setC_di, Fin.setC_ds, Fin.setC_l, Fin.bindL, List.length_map, Fin.initE, Fin.shp_int, Fin.shp_bool, Fin.shp_none, Fin.eqv_int, Fin.eqv_bool, Fin.eqv_bi, Fin.eqv_ib, Fin.isND_none, Fin.isND_int, Fin.isND_list, Fin.isND_tuple, Fin.revD_l, Fin.rev_map, Fin.back_val, Fin.back_none, Fin.filter_tt, List.map_cons, List.map_nil, List.length_cons, List.length_nil, List.getElem?_cons_zero, List.getElem?_cons_succ, List.set_cons_zero, List.set_cons_succ, List.replicate_succ, List.replicate_zero, List.cons_append, List.nil_append, Option.getD_some, Option.getD_none, Option.map_some, Option.map_none, Bool.and_true, Bool.true_and, Bool.and_false, Bool.false_and, Bool.and_self, Bool.not_true, Bool.not_false, Bool.true_eq_false, Bool.false_eq_true, Bool.not_eq_true', Bool.not_eq_false', if_true, if_false, ite_true, ite_false, true_and, and_true, false_and, and_false, true_implies, false_implies, implies_true, eq_self, decide_eq_true_eq, decide_eq_false_iff_not, decide_true, decide_false, bne_iff_ne, ne_eq, not_true_eq_false, not_false_eq_true, bne_eq_false_iff_eq, Option.some.injEq, Nat.zero_le, Nat.reduceAdd, Nat.reduceLeDiff, Nat.reduceLT, Nat.reduceBEq, Nat.reduceEqDiff, Int.reduceLE, Int.reduceLT, Int.reduceNeg, Int.reduceEq, okS_l (T := fxL) rfl, wCm l_law_law_pick, hmany]
    refine ⟨by omega, ?_⟩
    refine wComp_at (fun k acc e => ∃ (q : Int) (xs : List Int), at_ + 1 ≤ q ∧ q ≤ at_ + 1 + 2 * k ∧ xs.length = k ∧ acc = xs.map .int ∧ e = [some (.val (flI ns)), some (poolC ms q), some (.val (.int (0 + (j : Int)))), some (.val (.int (many : Int))), none, c5, c6, c7, c8, c9]) ⟨_, [], by omega, by omega, rfl, rfl, rfl⟩ ?_ ?_
    · rintro k d acc e hd ⟨q, xs, q1, q2, hx, rfl, rfl⟩
      have hk : k < many := by
        have := (List.getElem?_eq_some_iff.mp hd).1
        simp [rngL] at this
        exact this
      unfold t1_law
      simp only [Fin.wO_some, Fin.wO_none, Fin.wO_if, Fin.wO_map, Fin.wE_eq, Fin.kO_d, Fin.kO_sl, Fin.kO_lst, Fin.kO_exc, Fin.wR_var, Fin.kVar_val, Fin.kVar_lst, Fin.kVar_dic, Fin.kVar_exc, Fin.kVar_pool, Fin.pres_d, Fin.pres_fr, Fin.pres_sl, Fin.pres_nx, Fin.pres_exc, Fin.kP_pool, Fin.flatD, Fin.flat_ints, Fin.inD_ints, Fin.shp_ints, Fin.shp_nil, Fin.eqv_ints, Fin.eqv_ints_nil, Fin.b2D, Fin.wR_int, Fin.wR_str, Fin.wR_bool, Fin.wR_none, Fin.wR_glob, Fin.kRd0_eq, Fin.w2_bin, Fin.w2_cmp, Fin.w2_ix, Fin.w2_b2, Fin.kO4_eq, Fin.kO3_eq, Fin.kO2_ok, Fin.kO2_exc, Fin.kO1_ok, Fin.kO1_exc, Fin.w1_un, Fin.w1_rev, Fin.w1_isi, Fin.w1_fb, Fin.kU2_eq, Fin.kU1_ok, Fin.kU1_exc, Fin.kH8_eq, Fin.kH7_eq, Fin.kH6_ok, Fin.kH6_exc, Fin.kH5_eq, Fin.kH4_eq, Fin.kH3_eq, Fin.kH2_ok, Fin.kH2_exc, Fin.kH1_ok, Fin.kH1_exc, Fin.wR_bin, Fin.wR_cmp, Fin.wR_ix, Fin.wR_chn, Fin.wR_un, Fin.wR_rev, Fin.wR_isi, Fin.wR_fb, Fin.wR_and, Fin.wR_or, Fin.wR_not, Fin.kAnd_b, Fin.kAnd_exc, Fin.kOr_b, Fin.kOr_exc, Fin.kNot_b, Fin.kNot_exc, Fin.kT_ok, Fin.kT_exc, Fin.kIte_ok, Fin.kIte_exc, Fin.kIteE_ok, Fin.kIteE_exc, Fin.kTand_ok, Fin.kTand_exc, Fin.kTor_ok, Fin.kTor_exc, Fin.kTnot_ok, Fin.kTnot_exc, Fin.kTv_ok, Fin.kTv_exc, Fin.kTb_b, Fin.kTb_i, Fin.kTb_l, Fin.kTb_t, Fin.kTb_n, Fin.kTb_s, Fin.kRv_eq, Fin.kRb_eq, Fin.kRd_eq, Fin.kCmp_eq, Fin.kCi_ok, Fin.kCi_exc, Fin.kFor_ok, Fin.kFor_exc, Fin.wR_ite, Fin.wT_val, Fin.wT_and, Fin.wT_or, Fin.wT_not, Fin.kTup3_eq, Fin.kTup2_eq, Fin.kTup_ok, Fin.kTup_exc, Fin.kLst3_eq, Fin.kLst2_eq, Fin.kLst_ok, Fin.kLst_exc, Fin.kBi2_eq, Fin.kBi_ok, Fin.kBi_exc, Fin.kBm3_eq, Fin.kBm2_ok, Fin.kBm2_exc, Fin.kBm1_eq, Fin.kBm_ok, Fin.kBm_exc, Fin.kMm4_eq, Fin.kMm3_lst, Fin.kMm2_eq, Fin.kMm1_eq, Fin.kMm_ok, Fin.kMm_exc, Fin.kSl4_eq, Fin.kSl3_eq, Fin.kSl2_eq, Fin.kSl1_ok, Fin.kSl1_exc, Fin.kB2_eq, Fin.kB1_ok, Fin.kB1_exc, Fin.kG7_eq, Fin.kG6_eq, Fin.kG5_eq, Fin.kG4_eq, Fin.kG3_ok, Fin.kG3_exc, Fin.kG2_ok, Fin.kG2_exc, Fin.kG1_eq, Fin.kG0_ok, Fin.kG0_exc, Fin.kD6_eq, Fin.kD5_eq, Fin.kD4_eq, Fin.kD3_eq, Fin.kD2_ok, Fin.kD2_exc, Fin.kD1_ok, Fin.kD1_exc, Fin.kC3_eq, Fin.kC2_eq, Fin.kC1_ok, Fin.kC1_exc, Fin.kMv2_eq, Fin.kMv_sl, Fin.kMv_exc, Fin.wEs_nil, Fin.kEs_ok, Fin.kEs_exc, Fin.kEc_ok, Fin.kEc_exc, Fin.wEs_cons, Fin.wR_tup, Fin.wR_lst, Fin.wR_bi, Fin.wR_bm, Fin.wR_mm, Fin.wR_sl, Fin.wSl_non, Fin.wSl_some, Fin.kSl_i, Fin.wR_dic0, Fin.kIsx_e, Fin.wR_isx, Fin.kP_val, Fin.kP_lst, Fin.kP_dic, Fin.kP_exc, Fin.kM_ok, Fin.kM_exc, Fin.kMc_c, Fin.isVal_pool, Fin.wR_comp, Fin.kI_ok, Fin.kI_exc, Fin.kIs_ok, Fin.kIs_exc, Fin.wI_seq, Fin.wI_rng, Fin.kRg_1, Fin.kRg_2, Fin.wS_seq, Fin.kSeq_nx, Fin.kSeq_rt, Fin.kSeq_exc, Fin.kSeq_bk, Fin.kSeq_ct, Fin.wS_pass, Fin.wS_brk, Fin.wS_cnt, Fin.wS_retN, Fin.wS_raise, Fin.kEx_ok, Fin.kEx_exc, Fin.wS_expr, Fin.kRet_ok, Fin.kRet_exc, Fin.wS_ret, Fin.kSet_d, Fin.kSet_fr, Fin.kSet_sl, Fin.kSet_exc, Fin.wS_set, Fin.kUnp_ok, Fin.kUnp_exc, Fin.wS_unp, Fin.kAug_ok, Fin.kAug_exc, Fin.kAugV_val, Fin.wS_aug, Fin.wS_ite, Fin.wS_for, Fin.wS_whl, Fin.kSx2_c, Fin.kSx1_d, Fin.kSx1_exc, Fin.kSx_ok, Fin.kSx_exc, Fin.wS_setIx, Fin.wS_tryx, Fin.wS_tryas, Fin.kTas_nx, Fin.kTas_rt, Fin.kTas_exc, Fin.kLp_nx, Fin.kLp_ct, Fin.kLp_bk, Fin.kLp_rt, Fin.kLp_exc, Fin.wBind_one, Fin.wBind_many, Fin.kV_d, Fin.wR_b2, Fin.wR_dget, Fin.kDs_dic, Fin.wR_dset, Fin.wR_lsI, Fin.kEn_ok, Fin.kEn_exc, Fin.wI_enum, Fin.kRev_ok, Fin.kRev_exc, Fin.wI_rev, Fin.kRr_1, Fin.wI_revr, Fin.kAx2_lst, Fin.kAx_ok, Fin.kAx1_lst, Fin.kAx0_i, Fin.b2T, Fin.isDic, Fin.flOf, Fin.biSorted, Fin.biSum, Fin.intsD_map, Fin.wBin, Fin.wCmp, Fin.binD_ii, Fin.binD_ss, Fin.binD_ll, Fin.binD_li, Fin.binI, Fin.dVal, Fin.mulOk_eq, Fin.powOk_eq, Fin.unD_neg, Fin.unD_inv, Fin.cmpD_eq, Fin.cmpD_ne, Fin.cmpD_lt, Fin.cmpD_le, Fin.cmpD_gt, Fin.cmpD_ge, Fin.cmpD_is, Fin.cmpD_isnot, Fin.cmpD_inl, Fin.cmpD_int, Fin.cmpD_nil, Fin.cmpD_nit, Fin.ixD_l, Fin.ixD_t, Fin.ixD_di, Fin.ixD_ds, Fin.dgD_i, Fin.dgD_s, Fin.isDct_k, Fin.atI_0, Fin.atI_1, Fin.atI_2, Fin.atI_3, Fin.biD, Fin.biLen, Fin.biInt, Fin.biAbs, Fin.biMin, Fin.biList, Fin.biTuple, Fin.isiD, Fin.mmD, Fin.mmAppend, Fin.isLst, Fin.isOwn, Fin.res, Fin.resL, Fin.frzS, Fin.hasSl, Fin.isVal_lst, Fin.isVal_dic, Fin.isVal_val, Fin.asVal, Fin.scalC, Fin.scalD, Fin.Cell.frz, Fin.setC_di, Fin.setC_ds, Fin.setC_l, Fin.bindL, List.length_map, Fin.initE, Fin.shp_int, Fin.shp_bool, Fin.shp_none, Fin.eqv_int, Fin.eqv_bool, Fin.eqv_bi, Fin.eqv_ib, Fin.isND_none, Fin.isND_int, Fin.isND_list, Fin.isND_tuple, Fin.revD_l, Fin.rev_map, Fin.back_val, Fin.back_none, Fin.filter_tt, List.map_cons, List.map_nil, List.length_cons, List.length_nil, List.getElem?_cons_zero, List.getElem?_cons_succ, List.set_cons_zero, List.set_cons_succ, List.replicate_succ, List.replicate_zero, List.cons_append, List.nil_append, Option.getD_some, Option.getD_none, Option.map_some, Option.map_none, Bool.and_true, Bool.true_and, Bool.and_false, Bool.false_and, Bool.and_self, Bool.not_true, Bool.not_false, Bool.true_eq_false, Bool.false_eq_true, Bool.not_eq_true', Bool.not_eq_false', if_true, if_false, ite_true, ite_false, true_and, and_true, false_and, and_false, true_implies, false_implies, implies_true, eq_self, decide_eq_true_eq, decide_eq_false_iff_not, decide_true, decide_false, bne_iff_ne, ne_eq, not_true_eq_false, not_false_eq_true, bne_eq_false_iff_eq, Option.some.injEq, Nat.zero_le, Nat.reduceAdd, Nat.reduceLeDiff, Nat.reduceLT, Nat.reduceBEq, Nat.reduceEqDiff, Int.reduceLE, Int.reduceLT, Int.reduceNeg, Int.reduceEq]
      unfold x1_law
      simp only [Fin.wO_some, Fin.wO_none, Fin.wO_if, Fin.wO_map, Fin.wE_eq, Fin.kO_d, Fin.kO_sl, Fin.kO_lst, Fin.kO_exc, Fin.wR_var, Fin.kVar_val, Fin.kVar_lst, Fin.kVar_dic, Fin.kVar_exc, Fin.kVar_pool, Fin.pres_d, Fin.pres_fr, Fin.pres_sl, Fin.pres_nx, Fin.pres_exc, Fin.kP_pool, Fin.flatD, Fin.flat_ints, Fin.inD_ints, Fin.shp_ints, Fin.shp_nil, Fin.eqv_ints, Fin.eqv_ints_nil, Fin.b2D, Fin.wR_int, Fin.wR_str, Fin.wR_bool, Fin.wR_none, Fin.wR_glob, Fin.kRd0_eq, Fin.w2_bin, Fin.w2_cmp, Fin.w2_ix, Fin.w2_b2, Fin.kO4_eq, Fin.kO3_eq, Fin.kO2_ok, Fin.kO2_exc, Fin.kO1_ok, Fin.kO1_exc, Fin.w1_un, Fin.w1_rev, Fin.w1_isi, Fin.w1_fb, Fin.kU2_eq, Fin.kU1_ok, Fin.kU1_exc, Fin.kH8_eq, Fin.kH7_eq, Fin.kH6_ok, Fin.kH6_exc, Fin.kH5_eq, Fin.kH4_eq, Fin.kH3_eq, Fin.kH2_ok, Fin.kH2_exc, Fin.kH1_ok, Fin.kH1_exc, Fin.wR_bin, Fin.wR_cmp, Fin.wR_ix, Fin.wR_chn, Fin.wR_un, Fin.wR_rev, Fin.wR_isi, Fin.wR_fb, Fin.wR_and, Fin.wR_or, Fin.wR_not, Fin.kAnd_b, Fin.kAnd_exc, Fin.kOr_b, Fin.kOr_exc, Fin.kNot_b, Fin.kNot_exc, Fin.kT_ok, Fin.kT_exc, Fin.kIte_ok, Fin.kIte_exc, Fin.kIteE_ok, Fin.kIteE_exc, Fin.kTand_ok, Fin.kTand_exc, Fin.kTor_ok, Fin.kTor_exc, Fin.kTnot_ok, Fin.kTnot_exc, Fin.kTv_ok, Fin.kTv_exc, Fin.kTb_b, Fin.kTb_i, Fin.kTb_l, Fin.kTb_t, Fin.kTb_n, Fin.kTb_s, Fin.kRv_eq, Fin.kRb_eq, Fin.kRd_eq, Fin.kCmp_eq, Fin.kCi_ok, Fin.kCi_exc, Fin.kFor_ok, Fin.kFor_exc, Fin.wR_ite, Fin.wT_val, Fin.wT_and, Fin.wT_or, Fin.wT_not, Fin.kTup3_eq, Fin.kTup2_eq, Fin.kTup_ok, Fin.kTup_exc, Fin.kLst3_eq, Fin.kLst2_eq, Fin.kLst_ok, Fin.kLst_exc, Fin.kBi2_eq, Fin.kBi_ok, Fin.kBi_exc, Fin.kBm3_eq, Fin.kBm2_ok, Fin.kBm2_exc, Fin.kBm1_eq, Fin.kBm_ok, Fin.kBm_exc, Fin.kMm4_eq, Fin.kMm3_lst, Fin.kMm2_eq, Fin.kMm1_eq, Fin.kMm_ok, Fin.kMm_exc, Fin.kSl4_eq, Fin.kSl3_eq, Fin.kSl2_eq, Fin.kSl1_ok, Fin.kSl1_exc, Fin.kB2_eq, Fin.kB1_ok, Fin.kB1_exc, Fin.kG7_eq, Fin.kG6_eq, Fin.kG5_eq, Fin.kG4_eq, Fin.kG3_ok, Fin.kG3_exc, Fin.kG2_ok, Fin.kG2_exc, Fin.kG1_eq, Fin.kG0_ok, Fin.kG0_exc, Fin.kD6_eq, Fin.kD5_eq, Fin.kD4_eq, Fin.kD3_eq, Fin.kD2_ok, Fin.kD2_exc, Fin.kD1_ok, Fin.kD1_exc, Fin.kC3_eq, Fin.kC2_eq, Fin.kC1_ok, Fin.kC1_exc, Fin.kMv2_eq, Fin.kMv_sl, Fin.kMv_exc, Fin.wEs_nil, Fin.kEs_ok, Fin.kEs_exc, Fin.kEc_ok, Fin.kEc_exc, Fin.wEs_cons, Fin.wR_tup, Fin.wR_lst, Fin.wR_bi, Fin.wR_bm, Fin.wR_mm, Fin.wR_sl, Fin.wSl_non, Fin.wSl_some, Fin.kSl_i, Fin.wR_dic0, Fin.kIsx_e, Fin.wR_isx, Fin.kP_val, Fin.kP_lst, Fin.kP_dic, Fin.kP_exc, Fin.kM_ok, Fin.kM_exc, Fin.kMc_c, Fin.isVal_pool, Fin.wR_comp, Fin.kI_ok, Fin.kI_exc, Fin.kIs_ok, Fin.kIs_exc, Fin.wI_seq, Fin.wI_rng, Fin.kRg_1, Fin.kRg_2, Fin.wS_seq, Fin.kSeq_nx, Fin.kSeq_rt, Fin.kSeq_exc, Fin.kSeq_bk, Fin.kSeq_ct, Fin.wS_pass, Fin.wS_brk, Fin.wS_cnt, Fin.wS_retN, Fin.wS_raise, Fin.kEx_ok, Fin.kEx_exc, Fin.wS_expr, Fin.kRet_ok, Fin.kRet_exc, Fin.wS_ret, Fin.kSet_d, Fin.kSet_fr, Fin.kSet_sl, Fin.kSet_exc, Fin.wS_set, Fin.kUnp_ok, Fin.kUnp_exc, Fin.wS_unp, Fin.kAug_ok, Fin.kAug_exc, Fin.kAugV_val, Fin.wS_aug, Fin.wS_ite, Fin.wS_for, Fin.wS_whl, Fin.kSx2_c, Fin.kSx1_d, Fin.kSx1_exc, Fin.kSx_ok, Fin.kSx_exc, Fin.wS_setIx, Fin.wS_tryx, Fin.wS_tryas, Fin.kTas_nx, Fin.kTas_rt, Fin.kTas_exc, Fin.kLp_nx, Fin.kLp_ct, Fin.kLp_bk, Fin.kLp_rt, Fin.kLp_exc, Fin.wBind_one, Fin.wBind_many, Fin.kV_d, Fin.wR_b2, Fin.wR_dget, Fin.kDs_dic, Fin.wR_dset, Fin.wR_lsI, Fin.kEn_ok, Fin.kEn_exc, Fin.wI_enum, Fin.kRev_ok, Fin.kRev_exc, Fin.wI_rev, Fin.kRr_1, Fin.wI_revr, Fin.kAx2_lst, Fin.kAx_ok, Fin.kAx1_lst, Fin.kAx0_i, Fin.b2T, Fin.isDic, Fin.flOf, Fin.biSorted, Fin.biSum, Fin.intsD_map, Fin.wBin, Fin.wCmp, Fin.binD_ii, Fin.binD_ss, Fin.binD_ll, Fin.binD_li, Fin.binI, Fin.dVal, Fin.mulOk_eq, Fin.powOk_eq, Fin.unD_neg, Fin.unD_inv, Fin.cmpD_eq, Fin.cmpD_ne, Fin.cmpD_lt, Fin.cmpD_le, Fin.cmpD_gt, Fin.cmpD_ge, Fin.cmpD_is, Fin.cmpD_isnot, Fin.cmpD_inl, Fin.cmpD_int, Fin.cmpD_nil, Fin.cmpD_nit, Fin.ixD_l, Fin.ixD_t, Fin.ixD_di, Fin.ixD_ds, Fin.dgD_i, Fin.dgD_s, Fin.isDct_k, Fin.atI_0, Fin.atI_1, Fin.atI_2, Fin.atI_3, Fin.biD, Fin.biLen, Fin.biInt, Fin.biAbs, Fin.biMin, Fin.biList, Fin.biTuple, Fin.isiD, Fin.mmD, Fin.mmAppend, Fin.isLst, Fin.isOwn, Fin.res, Fin.resL, Fin.frzS, Fin.hasSl, Fin.isVal_lst, Fin.isVal_dic, Fin.isVal_val, Fin.asVal, Fin.scalC, Fin.scalD, Fin.Cell.frz, Fin.setC_di, Fin.setC_ds, Fin.setC_l, Fin.bindL, List.length_map, Fin.initE, Fin.shp_int, Fin.shp_bool, Fin.shp_none, Fin.eqv_int, Fin.eqv_bool, Fin.eqv_bi, Fin.eqv_ib, Fin.isND_none, Fin.isND_int, Fin.isND_list, Fin.isND_tuple, Fin.revD_l, Fin.rev_map, Fin.back_val, Fin.back_none, Fin.filter_tt, List.map_cons, List.map_nil, List.length_cons, List.length_nil, List.getElem?_cons_zero, List.getElem?_cons_succ, List.set_cons_zero, List.set_cons_succ, List.replicate_succ, List.replicate_zero, List.cons_append, List.nil_append, Option.getD_some, Option.getD_none, Option.map_some, Option.map_none, Bool.and_true, Bool.true_and, Bool.and_false, Bool.false_and, Bool.and_self, Bool.not_true, Bool.not_false, Bool.true_eq_false, Bool.false_eq_true, Bool.not_eq_true', Bool.not_eq_false', if_true, if_false, ite_true, ite_false, true_and, and_true, false_and, and_false, true_implies, false_implies, implies_true, eq_self, decide_eq_true_eq, decide_eq_false_iff_not, decide_true, decide_false, bne_iff_ne, ne_eq, not_true_eq_false, not_false_eq_true, bne_eq_false_iff_eq, Option.some.injEq, Nat.zero_le, Nat.reduceAdd, Nat.reduceLeDiff, Nat.reduceLT, Nat.reduceBEq, Nat.reduceEqDiff, Int.reduceLE, Int.reduceLT, Int.reduceNeg, Int.reduceEq, wCm l_law_law_pick]
      refine pick_w hpool (by omega) (by omega) (by omega) fun r r1 r2 => ?_
      simp only [Fin.wO_some, Fin.wO_none, Fin.wO_if, Fin.wO_map, Fin.wE_eq, Fin.kO_d, Fin.kO_sl, Fin.kO_lst, Fin.kO_exc, Fin.wR_var, Fin.kVar_val, Fin.kVar_lst, Fin.kVar_dic, Fin.kVar_exc, Fin.kVar_pool, Fin.pres_d, Fin.pres_fr, Fin.pres_sl, Fin.pres_nx, Fin.pres_exc, Fin.kP_pool, Fin.flatD, Fin.flat_ints, Fin.inD_ints, Fin.shp_ints, Fin.shp_nil, Fin.eqv_ints, Fin.eqv_ints_nil, Fin.b2D, Fin.wR_int, Fin.wR_str, Fin.wR_bool, Fin.wR_none, Fin.wR_glob, Fin.kRd0_eq, Fin.w2_bin, Fin.w2_cmp, Fin.w2_ix, Fin.w2_b2, Fin.kO4_eq, Fin.kO3_eq, Fin.kO2_ok, Fin.kO2_exc, Fin.kO1_ok, Fin.kO1_exc, Fin.w1_un, Fin.w1_rev, Fin.w1_isi, Fin.w1_fb, Fin.kU2_eq, Fin.kU1_ok, Fin.kU1_exc, Fin.kH8_eq, Fin.kH7_eq, Fin.kH6_ok, Fin.kH6_exc, Fin.kH5_eq, Fin.kH4_eq, Fin.kH3_eq, Fin.kH2_ok, Fin.kH2_exc, Fin.kH1_ok, Fin.kH1_exc, Fin.wR_bin, Fin.wR_cmp, Fin.wR_ix, Fin.wR_chn, Fin.wR_un, Fin.wR_rev, Fin.wR_isi, Fin.wR_fb, Fin.wR_and, Fin.wR_or, Fin.wR_not, Fin.kAnd_b, Fin.kAnd_exc, Fin.kOr_b, Fin.kOr_exc, Fin.kNot_b, Fin.kNot_exc, Fin.kT_ok, Fin.kT_exc, Fin.kIte_ok, Fin.kIte_exc, Fin.kIteE_ok, Fin.kIteE_exc, Fin.kTand_ok, Fin.kTand_exc, Fin.kTor_ok, Fin.kTor_exc, Fin.kTnot_ok, Fin.kTnot_exc, Fin.kTv_ok, Fin.kTv_exc, Fin.kTb_b, Fin.kTb_i, Fin.kTb_l, Fin.kTb_t, Fin.kTb_n, Fin.kTb_s, Fin.kRv_eq, Fin.kRb_eq, Fin.kRd_eq, Fin.kCmp_eq, Fin.kCi_ok, Fin.kCi_exc, Fin.kFor_ok, Fin.kFor_exc, Fin.wR_ite, Fin.wT_val, Fin.wT_and, Fin.wT_or, Fin.wT_not, Fin.kTup3_eq, Fin.kTup2_eq, Fin.kTup_ok, Fin.kTup_exc, Fin.kLst3_eq, Fin.kLst2_eq, Fin.kLst_ok, Fin.kLst_exc, Fin.kBi2_eq, Fin.kBi_ok, Fin.kBi_exc, Fin.kBm3_eq, Fin.kBm2_ok, Fin.kBm2_exc, Fin.kBm1_eq, Fin.kBm_ok, Fin.kBm_exc, Fin.kMm4_eq, Fin.kMm3_lst, Fin.kMm2_eq, Fin.kMm1_eq, Fin.kMm_ok, Fin.kMm_exc, Fin.kSl4_eq, Fin.kSl3_eq, Fin.kSl2_eq, Fin.kSl1_ok, Fin.kSl1_exc, Fin.kB2_eq, Fin.kB1_ok, Fin.kB1_exc, Fin.kG7_eq, Fin.kG6_eq, Fin.kG5_eq, Fin.kG4_eq, Fin.kG3_ok, Fin.kG3_exc, Fin.kG2_ok, Fin.kG2_exc, Fin.kG1_eq, Fin.kG0_ok, Fin.kG0_exc, Fin.kD6_eq, Fin.kD5_eq, Fin.kD4_eq, Fin.kD3_eq, Fin.kD2_ok, Fin.kD2_exc, Fin.kD1_ok, Fin.kD1_exc, Fin.kC3_eq, Fin.kC2_eq, Fin.kC1_ok, Fin.kC1_exc, Fin.kMv2_eq, Fin.kMv_sl, Fin.kMv_exc, Fin.wEs_nil, Fin.kEs_ok, Fin.kEs_exc, Fin.kEc_ok, Fin.kEc_exc, Fin.wEs_cons, Fin.wR_tup, Fin.wR_lst, Fin.wR_bi, Fin.wR_bm, Fin.wR_mm, Fin.wR_sl, Fin.wSl_non, Fin.wSl_some, Fin.kSl_i, Fin.wR_dic0, Fin.kIsx_e, Fin.wR_isx, Fin.kP_val, Fin.kP_lst, Fin.kP_dic, Fin.kP_exc, Fin.kM_ok, Fin.kM_exc, Fin.kMc_c, Fin.isVal_pool, Fin.wR_comp, Fin.kI_ok, Fin.kI_exc, Fin.kIs_ok, Fin.kIs_exc, Fin.wI_seq, Fin.wI_rng, Fin.kRg_1, Fin.kRg_2, Fin.wS_seq, Fin.kSeq_nx, Fin.kSeq_rt, Fin.kSeq_exc, Fin.kSeq_bk, Fin.kSeq_ct, Fin.wS_pass, Fin.wS_brk, Fin.wS_cnt, Fin.wS_retN, Fin.wS_raise, Fin.kEx_ok, Fin.kEx_exc, Fin.wS_expr, Fin.kRet_ok, Fin.kRet_exc, Fin.wS_ret, Fin.kSet_d, Fin.kSet_fr, Fin.kSet_sl, Fin.kSet_exc, Fin.wS_set, Fin.kUnp_ok, Fin.kUnp_exc, Fin.wS_unp, Fin.kAug_ok, Fin.kAug_exc, Fin.kAugV_val, Fin.wS_aug, Fin.wS_ite, Fin.wS_for, Fin.wS_whl, Fin.kSx2_c, Fin.kSx1_d, Fin.kSx1_exc, Fin.kSx_ok, Fin.kSx_exc, Fin.wS_setIx, Fin.wS_tryx, Fin.wS_tryas, Fin.kTas_nx, Fin.kTas_rt, Fin.kTas_exc, Fin.kLp_nx, Fin.kLp_ct, Fin.kLp_bk, Fin.kLp_rt, Fin.kLp_exc, Fin.wBind_one, Fin.wBind_many, Fin.kV_d, Fin.wR_b2, Fin.wR_dget, Fin.kDs_dic, Fin.wR_dset, Fin.wR_lsI, Fin.kEn_ok, Fin.kEn_exc, Fin.wI_enum, Fin.kRev_ok, Fin.kRev_exc, Fin.wI_rev, Fin.kRr_1, Fin.wI_revr, Fin.kAx2_lst, Fin.kAx_ok, Fin.kAx1_lst, Fin.kAx0_i, Fin.b2T, Fin.isDic, Fin.flOf, Fin.biSorted, Fin.biSum, Fin.intsD_map, Fin.wBin, Fin.wCmp, Fin.binD_ii, Fin.binD_ss, Fin.binD_ll, Fin.binD_li, Fin.binI, Fin.dVal, Fin.mulOk_eq, Fin.powOk_eq, Fin.unD_neg, Fin.unD_inv, Fin.cmpD_eq, Fin.cmpD_ne, Fin.cmpD_lt, Fin.cmpD_le, Fin.cmpD_gt, Fin.cmpD_ge, Fin.cmpD_is, Fin.cmpD_isnot, Fin.cmpD_inl, Fin.cmpD_int, Fin.cmpD_nil, Fin.cmpD_nit, Fin.ixD_l, Fin.ixD_t, Fin.ixD_di, Fin.ixD_ds, Fin.dgD_i, Fin.dgD_s, Fin.isDct_k, Fin.atI_0, Fin.atI_1, Fin.atI_2, Fin.atI_3, Fin.biD, Fin.biLen, Fin.biInt, Fin.biAbs, Fin.biMin, Fin.biList, Fin.biTuple, Fin.isiD, Fin.mmD, Fin.mmAppend, Fin.isLst, Fin.isOwn, Fin.res, Fin.resL, Fin.frzS, Fin.hasSl, Fin.isVal_lst, Fin.isVal_dic, Fin.isVal_val, Fin.asVal, Fin.scalC, Fin.scalD, Fin.Cell.frz, Fin.setC_di, Fin.setC_ds, Fin.setC_l, Fin.bindL, List.length_map, Fin.initE, Fin.shp_int, Fin.shp_bool, Fin.shp_none, Fin.eqv_int, Fin.eqv_bool, Fin.eqv_bi, Fin.eqv_ib, Fin.isND_none, Fin.isND_int, Fin.isND_list, Fin.isND_tuple, Fin.revD_l, Fin.rev_map, Fin.back_val, Fin.back_none, Fin.filter_tt, List.map_cons, List.map_nil, List.length_cons, List.length_nil, List.getElem?_cons_zero, List.getElem?_cons_succ, List.set_cons_zero, List.set_cons_succ, List.replicate_succ, List.replicate_zero, List.cons_append, List.nil_append, Option.getD_some, Option.getD_none, Option.map_some, Option.map_none, Bool.and_true, Bool.true_and, Bool.and_false, Bool.false_and, Bool.and_self, Bool.not_true, Bool.not_false, Bool.true_eq_false, Bool.false_eq_true, Bool.not_eq_true', Bool.not_eq_false', if_true, if_false, ite_true, ite_false, true_and, and_true, false_and, and_false, true_implies, false_implies, implies_true, eq_self, decide_eq_true_eq, decide_eq_false_iff_not, decide_true, decide_false, bne_iff_ne, ne_eq, not_true_eq_false, not_false_eq_true, bne_eq_false_iff_eq, Option.some.injEq, Nat.zero_le, Nat.reduceAdd, Nat.reduceLeDiff, Nat.reduceLT, Nat.reduceBEq, Nat.reduceEqDiff, Int.reduceLE, Int.reduceLT, Int.reduceNeg, Int.reduceEq, wCm l_law_law_pick]
      refine ⟨by omega, ?_⟩
      refine pick_w hpool (by omega) (by omega) (by omega) fun t t1 t2 => ?_
      obtain ⟨z, hz⟩ : ∃ z : Int, L2.atI [PyData.int 1, .int 1, .int 1000000] t = some (.int z) := by
        have : t = 0 ∨ t = 1 ∨ t = 2 := by omega
        rcases this with h | h | h <;> subst h
        · exact ⟨_, atI_0 _ _⟩
        · exact ⟨_, atI_1 _ _ _⟩
        · exact ⟨_, atI_2 _ _ _ _⟩
      simp only [Fin.wO_some, Fin.wO_none, Fin.wO_if, Fin.wO_map, Fin.wE_eq, Fin.kO_d, Fin.kO_sl, Fin.kO_lst, Fin.kO_exc, Fin.wR_var, Fin.kVar_val, Fin.kVar_lst, Fin.kVar_dic, Fin.kVar_exc, Fin.kVar_pool, Fin.pres_d, Fin.pres_fr, Fin.pres_sl, Fin.pres_nx, Fin.pres_exc, Fin.kP_pool, Fin.flatD, Fin.flat_ints, Fin.inD_ints, Fin.shp_ints, Fin.shp_nil, Fin.eqv_ints, Fin.eqv_ints_nil, Fin.b2D, Fin.wR_int, Fin.wR_str, Fin.wR_bool, Fin.wR_none, Fin.wR_glob, Fin.kRd0_eq, Fin.w2_bin, Fin.w2_cmp, Fin.w2_ix, Fin.w2_b2, Fin.kO4_eq, Fin.kO3_eq, Fin.kO2_ok, Fin.kO2_exc, Fin.kO1_ok, Fin.kO1_exc, Fin.w1_un, Fin.w1_rev, Fin.w1_isi, Fin.w1_fb, Fin.kU2_eq, Fin.kU1_ok, Fin.kU1_exc, Fin.kH8_eq, Fin.kH7_eq, Fin.kH6_ok, Fin.kH6_exc, Fin.kH5_eq, Fin.kH4_eq, Fin.kH3_eq, Fin.kH2_ok, Fin.kH2_exc, Fin.kH1_ok, Fin.kH1_exc, Fin.wR_bin, Fin.wR_cmp, Fin.wR_ix, Fin.wR_chn, Fin.wR_un, Fin.wR_rev, Fin.wR_isi, Fin.wR_fb, Fin.wR_and, Fin.wR_or, Fin.wR_not, Fin.kAnd_b, Fin.kAnd_exc, Fin.kOr_b, Fin.kOr_exc, Fin.kNot_b, Fin.kNot_exc, Fin.kT_ok, Fin.kT_exc, Fin.kIte_ok, Fin.kIte_exc, Fin.kIteE_ok, Fin.kIteE_exc, Fin.kTand_ok, Fin.kTand_exc, Fin.kTor_ok, Fin.kTor_exc, Fin.kTnot_ok, Fin.kTnot_exc, Fin.kTv_ok, Fin.kTv_exc, Fin.kTb_b, Fin.kTb_i, Fin.kTb_l, Fin.kTb_t, Fin.kTb_n, Fin.kTb_s, Fin.kRv_eq, Fin.kRb_eq, Fin.kRd_eq, Fin.kCmp_eq, Fin.kCi_ok, Fin.kCi_exc, Fin.kFor_ok, Fin.kFor_exc, Fin.wR_ite, Fin.wT_val, Fin.wT_and, Fin.wT_or, Fin.wT_not, Fin.kTup3_eq, Fin.kTup2_eq, Fin.kTup_ok, Fin.kTup_exc, Fin.kLst3_eq, Fin.kLst2_eq, Fin.kLst_ok, Fin.kLst_exc, Fin.kBi2_eq, Fin.kBi_ok, Fin.kBi_exc, Fin.kBm3_eq, Fin.kBm2_ok, Fin.kBm2_exc, Fin.kBm1_eq, Fin.kBm_ok, Fin.kBm_exc, Fin.kMm4_eq, Fin.kMm3_lst, Fin.kMm2_eq, Fin.kMm1_eq, Fin.kMm_ok, Fin.kMm_exc, Fin.kSl4_eq, Fin.kSl3_eq, Fin.kSl2_eq, Fin.kSl1_ok, Fin.kSl1_exc, Fin.kB2_eq, Fin.kB1_ok, Fin.kB1_exc, Fin.kG7_eq, Fin.kG6_eq, Fin.kG5_eq, Fin.kG4_eq, Fin.kG3_ok, Fin.kG3_exc, Fin.kG2_ok, Fin.kG2_exc, Fin.kG1_eq, Fin.kG0_ok, Fin.kG0_exc, Fin.kD6_eq, Fin.kD5_eq, Fin.kD4_eq, Fin.kD3_eq, Fin.kD2_ok, Fin.kD2_exc, Fin.kD1_ok, Fin.kD1_exc, Fin.kC3_eq, Fin.kC2_eq, Fin.kC1_ok, Fin.kC1_exc, Fin.kMv2_eq, Fin.kMv_sl, Fin.kMv_exc, Fin.wEs_nil, Fin.kEs_ok, Fin.kEs_exc, Fin.kEc_ok, Fin.kEc_exc, Fin.wEs_cons, Fin.wR_tup, Fin.wR_lst, Fin.wR_bi, Fin.wR_bm, Fin.wR_mm, Fin.wR_sl, Fin.wSl_non, Fin.wSl_some, Fin.kSl_i, Fin.wR_dic0, Fin.kIsx_e, Fin.wR_isx, Fin.kP_val, Fin.kP_lst, Fin.kP_dic, Fin.kP_exc, Fin.kM_ok, Fin.kM_exc, Fin.kMc_c, Fin.isVal_pool, Fin.wR_comp, Fin.kI_ok, Fin.kI_exc, Fin.kIs_ok, Fin.kIs_exc, Fin.wI_seq, Fin.wI_rng, Fin.kRg_1, Fin.kRg_2, Fin.wS_seq, Fin.kSeq_nx, Fin.kSeq_rt, Fin.kSeq_exc, Fin.kSeq_bk, Fin.kSeq_ct, Fin.wS_pass, Fin.wS_brk, Fin.wS_cnt, Fin.wS_retN, Fin.wS_raise, Fin.kEx_ok, Fin.kEx_exc, Fin.wS_expr, Fin.kRet_ok, Fin.kRet_exc, Fin.wS_ret, Fin.kSet_d, Fin.kSet_fr, Fin.kSet_sl, Fin.kSet_exc, Fin.wS_set, Fin.kUnp_ok, Fin.kUnp_exc, Fin.wS_unp, Fin.kAug_ok, Fin.kAug_exc, Fin.kAugV_val, Fin.wS_aug, Fin.wS_ite, Fin.wS_for, Fin.wS_whl, Fin.kSx2_c, Fin.kSx1_d, Fin.kSx1_exc, Fin.kSx_ok, Fin.kSx_exc, Fin.wS_setIx, Fin.wS_tryx, Fin.wS_tryas, Fin.kTas_nx, Fin.kTas_rt, Fin.kTas_exc, Fin.kLp_nx, Fin.kLp_ct, Fin.kLp_bk, Fin.kLp_rt, Fin.kLp_exc, Fin.wBind_one, Fin.wBind_many, Fin.kV_d, Fin.wR_b2, Fin.wR_dget, Fin.kDs_dic, Fin.wR_dset, Fin.wR_lsI, Fin.kEn_ok, Fin.kEn_exc, Fin.wI_enum, Fin.kRev_ok, Fin.kRev_exc, Fin.wI_rev, Fin.kRr_1, Fin.wI_revr, Fin.kAx2_lst, Fin.kAx_ok, Fin.kAx1_lst, Fin.kAx0_i, Fin.b2T, Fin.isDic, Fin.flOf, Fin.biSorted, Fin.biSum, Fin.intsD_map, Fin.wBin, Fin.wCmp, Fin.binD_ii, Fin.binD_ss, Fin.binD_ll, Fin.binD_li, Fin.binI, Fin.dVal, Fin.mulOk_eq, Fin.powOk_eq, Fin.unD_neg, Fin.unD_inv, Fin.cmpD_eq, Fin.cmpD_ne, Fin.cmpD_lt, Fin.cmpD_le, Fin.cmpD_gt, Fin.cmpD_ge, Fin.cmpD_is, Fin.cmpD_isnot, Fin.cmpD_inl, Fin.cmpD_int, Fin.cmpD_nil, Fin.cmpD_nit, Fin.ixD_l, Fin.ixD_t, Fin.ixD_di, Fin.ixD_ds, Fin.dgD_i, Fin.dgD_s, Fin.isDct_k, Fin.atI_0, Fin.atI_1, Fin.atI_2, Fin.atI_3, Fin.biD, Fin.biLen, Fin.biInt, Fin.biAbs, Fin.biMin, Fin.biList, Fin.biTuple, Fin.isiD, Fin.mmD, Fin.mmAppend, Fin.isLst, Fin.isOwn, Fin.res, Fin.resL, Fin.frzS, Fin.hasSl, Fin.isVal_lst, Fin.isVal_dic, Fin.isVal_val, Fin.asVal, Fin.scalC, Fin.scalD, Fin.Cell.frz, Fin.setC_di, Fin.setC_ds, Fin.setC_l, Fin.bindL, List.length_map, Fin.initE, Fin.shp_int, Fin.shp_bool, Fin.shp_none, Fin.eqv_int, Fin.eqv_bool, Fin.eqv_bi, Fin.eqv_ib, Fin.isND_none, Fin.isND_int, Fin.isND_list, Fin.isND_tuple, Fin.revD_l, Fin.rev_map, Fin.back_val, Fin.back_none, Fin.filter_tt, List.map_cons, List.map_nil, List.length_cons, List.length_nil, List.getElem?_cons_zero, List.getElem?_cons_succ, List.set_cons_zero, List.set_cons_succ, List.replicate_succ, List.replicate_zero, List.cons_append, List.nil_append, Option.getD_some, Option.getD_none, Option.map_some, Option.map_none, Bool.and_true, Bool.true_and, Bool.and_false, Bool.false_and, Bool.and_self, Bool.not_true, Bool.not_false, Bool.true_eq_false, Bool.false_eq_true, Bool.not_eq_true', Bool.not_eq_false', if_true, if_false, ite_true, ite_false, true_and, and_true, false_and, and_false, true_implies, false_implies, implies_true, eq_self, decide_eq_true_eq, decide_eq_false_iff_not, decide_true, decide_false, bne_iff_ne, ne_eq, not_true_eq_false, not_false_eq_true, bne_eq_false_iff_eq, Option.some.injEq, Nat.zero_le, Nat.reduceAdd, Nat.reduceLeDiff, Nat.reduceLT, Nat.reduceBEq, Nat.reduceEqDiff, Int.reduceLE, Int.reduceLT, Int.reduceNeg, Int.reduceEq, wCm l_law_law_pick, hz]
      refine ⟨by omega, by rw [line_v]; omega, q + 1 + 1, xs ++ [10 * (r - 4) * z], by omega, by omega, by simp [hx], by simp, rfl⟩
    · rintro acc e ⟨q, xs, q1, q2, hx, rfl, rfl⟩
      have hx : xs.length = many := by rw [hx]; simp [rngL]
      unfold b3_law f2_law
      simp only [Fin.wO_some, Fin.wO_none, Fin.wO_if, Fin.wO_map, Fin.wE_eq, Fin.kO_d, Fin.kO_sl, Fin.kO_lst, Fin.kO_exc, Fin.wR_var, Fin.kVar_val, Fin.kVar_lst, Fin.kVar_dic, Fin.kVar_exc, Fin.kVar_pool, Fin.pres_d, Fin.pres_fr, Fin.pres_sl, Fin.pres_nx, Fin.pres_exc, Fin.kP_pool, Fin.flatD, Fin.flat_ints, Fin.inD_ints, Fin.shp_ints, Fin.shp_nil, Fin.eqv_ints, Fin.eqv_ints_nil, Fin.b2D, Fin.wR_int, Fin.wR_str, Fin.wR_bool, Fin.wR_none, Fin.wR_glob, Fin.kRd0_eq, Fin.w2_bin, Fin.w2_cmp, Fin.w2_ix, Fin.w2_b2, Fin.kO4_eq, Fin.kO3_eq, Fin.kO2_ok, Fin.kO2_exc, Fin.kO1_ok, Fin.kO1_exc, Fin.w1_un, Fin.w1_rev, Fin.w1_isi, Fin.w1_fb, Fin.kU2_eq, Fin.kU1_ok, Fin.kU1_exc, Fin.kH8_eq, Fin.kH7_eq, Fin.kH6_ok, Fin.kH6_exc, Fin.kH5_eq, Fin.kH4_eq, Fin.kH3_eq, Fin.kH2_ok, Fin.kH2_exc, Fin.kH1_ok, Fin.kH1_exc, Fin.wR_bin, Fin.wR_cmp, Fin.wR_ix, Fin.wR_chn, Fin.wR_un, Fin.wR_rev, Fin.wR_isi, Fin.wR_fb, Fin.wR_and, Fin.wR_or, Fin.wR_not, Fin.kAnd_b, Fin.kAnd_exc, Fin.kOr_b, Fin.kOr_exc, Fin.kNot_b, Fin.kNot_exc, Fin.kT_ok, Fin.kT_exc, Fin.kIte_ok, Fin.kIte_exc, Fin.kIteE_ok, Fin.kIteE_exc, Fin.kTand_ok, Fin.kTand_exc, Fin.kTor_ok, Fin.kTor_exc, Fin.kTnot_ok, Fin.kTnot_exc, Fin.kTv_ok, Fin.kTv_exc, Fin.kTb_b, Fin.kTb_i, Fin.kTb_l, Fin.kTb_t, Fin.kTb_n, Fin.kTb_s, Fin.kRv_eq, Fin.kRb_eq, Fin.kRd_eq, Fin.kCmp_eq, Fin.kCi_ok, Fin.kCi_exc, Fin.kFor_ok, Fin.kFor_exc, Fin.wR_ite, Fin.wT_val, Fin.wT_and, Fin.wT_or, Fin.wT_not, Fin.kTup3_eq, Fin.kTup2_eq, Fin.kTup_ok, Fin.kTup_exc, Fin.kLst3_eq, Fin.kLst2_eq, Fin.kLst_ok, Fin.kLst_exc, Fin.kBi2_eq, Fin.kBi_ok, Fin.kBi_exc, Fin.kBm3_eq, Fin.kBm2_ok, Fin.kBm2_exc, Fin.kBm1_eq, Fin.kBm_ok, Fin.kBm_exc, Fin.kMm4_eq, Fin.kMm3_lst, Fin.kMm2_eq, Fin.kMm1_eq, Fin.kMm_ok, Fin.kMm_exc, Fin.kSl4_eq, Fin.kSl3_eq, Fin.kSl2_eq, Fin.kSl1_ok, Fin.kSl1_exc, Fin.kB2_eq, Fin.kB1_ok, Fin.kB1_exc, Fin.kG7_eq, Fin.kG6_eq, Fin.kG5_eq, Fin.kG4_eq, Fin.kG3_ok, Fin.kG3_exc, Fin.kG2_ok, Fin.kG2_exc, Fin.kG1_eq, Fin.kG0_ok, Fin.kG0_exc, Fin.kD6_eq, Fin.kD5_eq, Fin.kD4_eq, Fin.kD3_eq, Fin.kD2_ok, Fin.kD2_exc, Fin.kD1_ok, Fin.kD1_exc, Fin.kC3_eq, Fin.kC2_eq, Fin.kC1_ok, Fin.kC1_exc, Fin.kMv2_eq, Fin.kMv_sl, Fin.kMv_exc, Fin.wEs_nil, Fin.kEs_ok, Fin.kEs_exc, Fin.kEc_ok, Fin.kEc_exc, Fin.wEs_cons, Fin.wR_tup, Fin.wR_lst, Fin.wR_bi, Fin.wR_bm, Fin.wR_mm, Fin.wR_sl, Fin.wSl_non, Fin.wSl_some, Fin.kSl_i, Fin.wR_dic0, Fin.kIsx_e, Fin.wR_isx, Fin.kP_val, Fin.kP_lst, Fin.kP_dic, Fin.kP_exc, Fin.kM_ok, Fin.kM_exc, Fin.kMc_c, Fin.isVal_pool, Fin.wR_comp, Fin.kI_ok, Fin.kI_exc, Fin.kIs_ok, Fin.kIs_exc, Fin.wI_seq, Fin.wI_rng, Fin.kRg_1, Fin.kRg_2, Fin.wS_seq, Fin.kSeq_nx, Fin.kSeq_rt, Fin.kSeq_exc, Fin.kSeq_bk, Fin.kSeq_ct, Fin.wS_pass, Fin.wS_brk, Fin.wS_cnt, Fin.wS_retN, Fin.wS_raise, Fin.kEx_ok, Fin.kEx_exc, Fin.wS_expr, Fin.kRet_ok, Fin.kRet_exc, Fin.wS_ret, Fin.kSet_d, Fin.kSet_fr, Fin.kSet_sl, Fin.kSet_exc, Fin.wS_set, Fin.kUnp_ok, Fin.kUnp_exc, Fin.wS_unp, Fin.kAug_ok, Fin.kAug_exc, Fin.kAugV_val, Fin.wS_aug, Fin.wS_ite, Fin.wS_for, Fin.wS_whl, Fin.kSx2_c, Fin.kSx1_d, Fin.kSx1_exc, Fin.kSx_ok, Fin.kSx_exc, Fin.wS_setIx, Fin.wS_tryx, Fin.wS_tryas, Fin.kTas_nx, Fin.kTas_rt, Fin.kTas_exc, Fin.kLp_nx, Fin.kLp_ct, Fin.kLp_bk, Fin.kLp_rt, Fin.kLp_exc, Fin.wBind_one, Fin.wBind_many, Fin.kV_d, Fin.wR_b2, Fin.wR_dget, Fin.kDs_dic, Fin.wR_dset, Fin.wR_lsI, Fin.kEn_ok, Fin.kEn_exc, Fin.wI_enum, Fin.kRev_ok, Fin.kRev_exc, Fin.wI_rev, Fin.kRr_1, Fin.wI_revr, Fin.kAx2_lst, Fin.kAx_ok, Fin.kAx1_lst, Fin.kAx0_i, Fin.b2T, Fin.isDic, Fin.flOf, Fin.biSorted, Fin.biSum, Fin.intsD_map, Fin.wBin, Fin.wCmp, Fin.binD_ii, Fin.binD_ss, Fin.binD_ll, Fin.binD_li, Fin.binI, Fin.dVal, Fin.mulOk_eq, Fin.powOk_eq, Fin.unD_neg, Fin.unD_inv, Fin.cmpD_eq, Fin.cmpD_ne, Fin.cmpD_lt, Fin.cmpD_le, Fin.cmpD_gt, Fin.cmpD_ge, Fin.cmpD_is, Fin.cmpD_isnot, Fin.cmpD_inl, Fin.cmpD_int, Fin.cmpD_nil, Fin.cmpD_nit, Fin.ixD_l, Fin.ixD_t, Fin.ixD_di, Fin.ixD_ds, Fin.dgD_i, Fin.dgD_s, Fin.isDct_k, Fin.atI_0, Fin.atI_1, Fin.atI_2, Fin.atI_3, Fin.biD, Fin.biLen, Fin.biInt, Fin.biAbs, Fin.biMin, Fin.biList, Fin.biTuple, Fin.isiD, Fin.mmD, Fin.mmAppend, Fin.isLst, Fin.isOwn, Fin.res, Fin.resL, Fin.frzS, Fin.hasSl, Fin.isVal_lst, Fin.isVal_dic, Fin.isVal_val, Fin.asVal, Fin.scalC, Fin.scalD, Fin.Cell.frz, Fin.setC_di, Fin.setC_ds, Fin.setC_l, Fin.bindL, List.length_map, Fin.initE, Fin.shp_int, Fin.shp_bool, Fin.shp_none, Fin.eqv_int, Fin.eqv_bool, Fin.eqv_bi, Fin.eqv_ib, Fin.isND_none, Fin.isND_int, Fin.isND_list, Fin.isND_tuple, Fin.revD_l, Fin.rev_map, Fin.back_val, Fin.back_none, Fin.filter_tt, List.map_cons, List.map_nil, List.length_cons, List.length_nil, List.getElem?_cons_zero, List.getElem?_cons_succ, List.set_cons_zero, List.set_cons_succ, List.replicate_succ, List.replicate_zero, List.cons_append, List.nil_append, Option.getD_some, Option.getD_none, Option.map_some, Option.map_none, Bool.and_true, Bool.true_and, Bool.and_false, Bool.false_and, Bool.and_self, Bool.not_true, Bool.not_false, Bool.true_eq_false, Bool.false_eq_true, Bool.not_eq_true', Bool.not_eq_false', if_true, if_false, ite_true, ite_false, true_and, and_true, false_and, and_false, true_implies, false_implies, implies_true, eq_self, decide_eq_true_eq, decide_eq_false_iff_not, decide_true, decide_false, bne_iff_ne, ne_eq, not_true_eq_false, not_false_eq_true, bne_eq_false_iff_eq, Option.some.injEq, Nat.zero_le, Nat.reduceAdd, Nat.reduceLeDiff, Nat.reduceLT, Nat.reduceBEq, Nat.reduceEqDiff, Int.reduceLE, Int.reduceLT, Int.reduceNeg, Int.reduceEq, okS_l (T := fxL) rfl]
      refine ⟨by omega, ?_⟩
      refine wFor_rng (fun k e => ∃ (c4 c7 c8 : Option Cell), e = [some (.val (flI ns)), some (poolC ms q), some (.val (.int (0 + (j : Int)))), some (.val (.int (many : Int))), c4, some (.lst (xs.map .int)), some (.lst (((cmpd xs).take k).map .int)), c7, c8, c9]) ⟨back c4, c7, c8, rfl⟩ ?_ ?_
      · rintro k e hk ⟨c4, c7, c8, rfl⟩
        have hk2 : k < xs.length := by omega
        obtain ⟨x, hx9⟩ : ∃ x, xs.getD k 0 = x := ⟨_, rfl⟩
        have ek : L2.atI (xs.map PyData.int) (0 + (k : Int)) = some (.int x) := by
          rw [atI_ints (by omega) (by omega), ← hx9]
          congr 3
          omega
        have hxk : xs[k] = x := by rw [← hx9]; simp [List.getD_eq_getElem?_getD, List.getElem?_eq_getElem hk2]
        unfold b2_law f1_law
        simp only [Fin.wO_some, Fin.wO_none, Fin.wO_if, Fin.wO_map, Fin.wE_eq, Fin.kO_d, Fin.kO_sl, Fin.kO_lst, Fin.kO_exc, Fin.wR_var, Fin.kVar_val, Fin.kVar_lst, Fin.kVar_dic, Fin.kVar_exc, Fin.kVar_pool, Fin.pres_d, Fin.pres_fr, Fin.pres_sl, Fin.pres_nx, Fin.pres_exc, Fin.kP_pool, Fin.flatD, Fin.flat_ints, Fin.inD_ints, Fin.shp_ints, Fin.shp_nil, Fin.eqv_ints, Fin.eqv_ints_nil, Fin.b2D, Fin.wR_int, Fin.wR_str, Fin.wR_bool, Fin.wR_none, Fin.wR_glob, Fin.kRd0_eq, Fin.w2_bin, Fin.w2_cmp, Fin.w2_ix, Fin.w2_b2, Fin.kO4_eq, Fin.kO3_eq, Fin.kO2_ok, Fin.kO2_exc, Fin.kO1_ok, Fin.kO1_exc, Fin.w1_un, Fin.w1_rev, Fin.w1_isi, Fin.w1_fb, Fin.kU2_eq, Fin.kU1_ok, Fin.kU1_exc, Fin.kH8_eq, Fin.kH7_eq, Fin.kH6_ok, Fin.kH6_exc, Fin.kH5_eq, Fin.kH4_eq, Fin.kH3_eq, Fin.kH2_ok, Fin.kH2_exc, Fin.kH1_ok, Fin.kH1_exc, Fin.wR_bin, Fin.wR_cmp, Fin.wR_ix, Fin.wR_chn, Fin.wR_un, Fin.wR_rev, Fin.wR_isi, Fin.wR_fb, Fin.wR_and, Fin.wR_or, Fin.wR_not, Fin.kAnd_b, Fin.kAnd_exc, Fin.kOr_b, Fin.kOr_exc, Fin.kNot_b, Fin.kNot_exc, Fin.kT_ok, Fin.kT_exc, Fin.kIte_ok, Fin.kIte_exc, Fin.kIteE_ok, Fin.kIteE_exc, Fin.kTand_ok, Fin.kTand_exc, Fin.kTor_ok, Fin.kTor_exc, Fin.kTnot_ok, Fin.kTnot_exc, Fin.kTv_ok, Fin.kTv_exc, Fin.kTb_b, Fin.kTb_i, Fin.kTb_l, Fin.kTb_t, Fin.kTb_n, Fin.kTb_s, Fin.kRv_eq, Fin.kRb_eq, Fin.kRd_eq, Fin.kCmp_eq, Fin.kCi_ok, Fin.kCi_exc, Fin.kFor_ok, Fin.kFor_exc, Fin.wR_ite, Fin.wT_val, Fin.wT_and, Fin.wT_or, Fin.wT_not, Fin.kTup3_eq, Fin.kTup2_eq, Fin.kTup_ok, Fin.kTup_exc, Fin.kLst3_eq, Fin.kLst2_eq, Fin.kLst_ok, Fin.kLst_exc, Fin.kBi2_eq, Fin.kBi_ok, Fin.kBi_exc, Fin.kBm3_eq, Fin.kBm2_ok, Fin.kBm2_exc, Fin.kBm1_eq, Fin.kBm_ok, Fin.kBm_exc, Fin.kMm4_eq, Fin.kMm3_lst, Fin.kMm2_eq, Fin.kMm1_eq, Fin.kMm_ok, Fin.kMm_exc, Fin.kSl4_eq, Fin.kSl3_eq, Fin.kSl2_eq, Fin.kSl1_ok, Fin.kSl1_exc, Fin.kB2_eq, Fin.kB1_ok, Fin.kB1_exc, Fin.kG7_eq, Fin.kG6_eq, Fin.kG5_eq, Fin.kG4_eq, Fin.kG3_ok, Fin.kG3_exc, Fin.kG2_ok, Fin.kG2_exc, Fin.kG1_eq, Fin.kG0_ok, Fin.kG0_exc, Fin.kD6_eq, Fin.kD5_eq, Fin.kD4_eq, Fin.kD3_eq, Fin.kD2_ok, Fin.kD2_exc, Fin.kD1_ok, Fin.kD1_exc, Fin.kC3_eq, Fin.kC2_eq, Fin.kC1_ok, Fin.kC1_exc, Fin.kMv2_eq, Fin.kMv_sl, Fin.kMv_exc, Fin.wEs_nil, Fin.kEs_ok, Fin.kEs_exc, Fin.kEc_ok, Fin.kEc_exc, Fin.wEs_cons, Fin.wR_tup, Fin.wR_lst, Fin.wR_bi, Fin.wR_bm, Fin.wR_mm, Fin.wR_sl, Fin.wSl_non, Fin.wSl_some, Fin.kSl_i, Fin.wR_dic0, Fin.kIsx_e, Fin.wR_isx, Fin.kP_val, Fin.kP_lst, Fin.kP_dic, Fin.kP_exc, Fin.kM_ok, Fin.kM_exc, Fin.kMc_c, Fin.isVal_pool, Fin.wR_comp, Fin.kI_ok, Fin.kI_exc, Fin.kIs_ok, Fin.kIs_exc, Fin.wI_seq, Fin.wI_rng, Fin.kRg_1, Fin.kRg_2, Fin.wS_seq, Fin.kSeq_nx, Fin.kSeq_rt, Fin.kSeq_exc, Fin.kSeq_bk, Fin.kSeq_ct, Fin.wS_pass, Fin.wS_brk, Fin.wS_cnt, Fin.wS_retN, Fin.wS_raise, Fin.kEx_ok, Fin.kEx_exc, Fin.wS_expr, Fin.kRet_ok, Fin.kRet_exc, Fin.wS_ret, Fin.kSet_d, Fin.kSet_fr, Fin.kSet_sl, Fin.kSet_exc, Fin.wS_set, Fin.kUnp_ok, Fin.kUnp_exc, Fin.wS_unp, Fin.kAug_ok, Fin.kAug_exc, Fin.kAugV_val, Fin.wS_aug, Fin.wS_ite, Fin.wS_for, Fin.wS_whl, Fin.kSx2_c, Fin.kSx1_d, Fin.kSx1_exc, Fin.kSx_ok, Fin.kSx_exc, Fin.wS_setIx, Fin.wS_tryx, Fin.wS_tryas, Fin.kTas_nx, Fin.kTas_rt, Fin.kTas_exc, Fin.kLp_nx, Fin.kLp_ct, Fin.kLp_bk, Fin.kLp_rt, Fin.kLp_exc, Fin.wBind_one, Fin.wBind_many, Fin.kV_d, Fin.wR_b2, Fin.wR_dget, Fin.kDs_dic, Fin.wR_dset, Fin.wR_lsI, Fin.kEn_ok, Fin.kEn_exc, Fin.wI_enum, Fin.kRev_ok, Fin.kRev_exc, Fin.wI_rev, Fin.kRr_1, Fin.wI_revr, Fin.kAx2_lst, Fin.kAx_ok, Fin.kAx1_lst, Fin.kAx0_i, Fin.b2T, Fin.isDic, Fin.flOf, Fin.biSorted, Fin.biSum, Fin.intsD_map, Fin.wBin, Fin.wCmp, Fin.binD_ii, Fin.binD_ss, Fin.binD_ll, Fin.binD_li, Fin.binI, Fin.dVal, Fin.mulOk_eq, Fin.powOk_eq, Fin.unD_neg, Fin.unD_inv, Fin.cmpD_eq, Fin.cmpD_ne, Fin.cmpD_lt, Fin.cmpD_le, Fin.cmpD_gt, Fin.cmpD_ge, Fin.cmpD_is, Fin.cmpD_isnot, Fin.cmpD_inl, Fin.cmpD_int, Fin.cmpD_nil, Fin.cmpD_nit, Fin.ixD_l, Fin.ixD_t, Fin.ixD_di, Fin.ixD_ds, Fin.dgD_i, Fin.dgD_s, Fin.isDct_k, Fin.atI_0, Fin.atI_1, Fin.atI_2, Fin.atI_3, Fin.biD, Fin.biLen, Fin.biInt, Fin.biAbs, Fin.biMin, Fin.biList, Fin.biTuple, Fin.isiD, Fin.mmD, Fin.mmAppend, Fin.isLst, Fin.isOwn, Fin.res, Fin.resL, Fin.frzS, Fin.hasSl, Fin.isVal_lst, Fin.isVal_dic, Fin.isVal_val, Fin.asVal, Fin.scalC, Fin.scalD, Fin.Cell.frz, Fin.setC_di, Fin.setC_ds, Fin.setC_l, Fin.bindL, List.length_map, Fin.initE, Fin.shp_int, Fin.shp_bool, Fin.shp_none, Fin.eqv_int, Fin.eqv_bool, Fin.eqv_bi, Fin.eqv_ib, Fin.isND_none, Fin.isND_int, Fin.isND_list, Fin.isND_tuple, Fin.revD_l, Fin.rev_map, Fin.back_val, Fin.back_none, Fin.filter_tt, List.map_cons, List.map_nil, List.length_cons, List.length_nil, List.getElem?_cons_zero, List.getElem?_cons_succ, List.set_cons_zero, List.set_cons_succ, List.replicate_succ, List.replicate_zero, List.cons_append, List.nil_append, Option.getD_some, Option.getD_none, Option.map_some, Option.map_none, Bool.and_true, Bool.true_and, Bool.and_false, Bool.false_and, Bool.and_self, Bool.not_true, Bool.not_false, Bool.true_eq_false, Bool.false_eq_true, Bool.not_eq_true', Bool.not_eq_false', if_true, if_false, ite_true, ite_false, true_and, and_true, false_and, and_false, true_implies, false_implies, implies_true, eq_self, decide_eq_true_eq, decide_eq_false_iff_not, decide_true, decide_false, bne_iff_ne, ne_eq, not_true_eq_false, not_false_eq_true, bne_eq_false_iff_eq, Option.some.injEq, Nat.zero_le, Nat.reduceAdd, Nat.reduceLeDiff, Nat.reduceLT, Nat.reduceBEq, Nat.reduceEqDiff, Int.reduceLE, Int.reduceLT, Int.reduceNeg, Int.reduceEq, okS_l (T := fxL) rfl]
        refine ⟨by omega, ?_⟩
        refine wFor_rng (fun jj e => ∃ (c8 : Option Cell), e = [some (.val (flI ns)), some (poolC ms q), some (.val (.int (0 + (j : Int)))), some (.val (.int (many : Int))), some (.val (.int (0 + (k : Int)))), some (.lst (xs.map .int)), some (.lst (((cmpd xs).take k).map .int)), some (.val (.int (wsum (xs.take jj) x - (if k < jj then 1 else 0)))), c8, c9]) ⟨c8, by simp [wsum]⟩ ?_ ?_
        · rintro jj e hjj ⟨c8, rfl⟩
          have hj2 : jj < xs.length := by omega
          obtain ⟨y, hy9⟩ : ∃ y, xs.getD jj 0 = y := ⟨_, rfl⟩
          have ej : L2.atI (xs.map PyData.int) (0 + (jj : Int)) = some (.int y) := by
            rw [atI_ints (by omega) (by omega), ← hy9]
            congr 3
            omega
          have hyj : xs[jj] = y := by rw [← hy9]; simp [List.getD_eq_getElem?_getD, List.getElem?_eq_getElem hj2]
          have e2 : xs.take (jj + 1) = xs.take jj ++ [y] := by rw [List.take_succ, List.getElem?_eq_getElem hj2, hyj]; rfl
          unfold b1_law
          simp only [Fin.wO_some, Fin.wO_none, Fin.wO_if, Fin.wO_map, Fin.wE_eq, Fin.kO_d, Fin.kO_sl, Fin.kO_lst, Fin.kO_exc, Fin.wR_var, Fin.kVar_val, Fin.kVar_lst, Fin.kVar_dic, Fin.kVar_exc, Fin.kVar_pool, Fin.pres_d, Fin.pres_fr, Fin.pres_sl, Fin.pres_nx, Fin.pres_exc, Fin.kP_pool, Fin.flatD, Fin.flat_ints, Fin.inD_ints, Fin.shp_ints, Fin.shp_nil, Fin.eqv_ints, Fin.eqv_ints_nil, Fin.b2D, Fin.wR_int, Fin.wR_str, Fin.wR_bool, Fin.wR_none, Fin.wR_glob, Fin.kRd0_eq, Fin.w2_bin, Fin.w2_cmp, Fin.w2_ix, Fin.w2_b2, Fin.kO4_eq, Fin.kO3_eq, Fin.kO2_ok, Fin.kO2_exc, Fin.kO1_ok, Fin.kO1_exc, Fin.w1_un, Fin.w1_rev, Fin.w1_isi, Fin.w1_fb, Fin.kU2_eq, Fin.kU1_ok, Fin.kU1_exc, Fin.kH8_eq, Fin.kH7_eq, Fin.kH6_ok, Fin.kH6_exc, Fin.kH5_eq, Fin.kH4_eq, Fin.kH3_eq, Fin.kH2_ok, Fin.kH2_exc, Fin.kH1_ok, Fin.kH1_exc, Fin.wR_bin, Fin.wR_cmp, Fin.wR_ix, Fin.wR_chn, Fin.wR_un, Fin.wR_rev, Fin.wR_isi, Fin.wR_fb, Fin.wR_and, Fin.wR_or, Fin.wR_not, Fin.kAnd_b, Fin.kAnd_exc, Fin.kOr_b, Fin.kOr_exc, Fin.kNot_b, Fin.kNot_exc, Fin.kT_ok, Fin.kT_exc, Fin.kIte_ok, Fin.kIte_exc, Fin.kIteE_ok, Fin.kIteE_exc, Fin.kTand_ok, Fin.kTand_exc, Fin.kTor_ok, Fin.kTor_exc, Fin.kTnot_ok, Fin.kTnot_exc, Fin.kTv_ok, Fin.kTv_exc, Fin.kTb_b, Fin.kTb_i, Fin.kTb_l, Fin.kTb_t, Fin.kTb_n, Fin.kTb_s, Fin.kRv_eq, Fin.kRb_eq, Fin.kRd_eq, Fin.kCmp_eq, Fin.kCi_ok, Fin.kCi_exc, Fin.kFor_ok, Fin.kFor_exc, Fin.wR_ite, Fin.wT_val, Fin.wT_and, Fin.wT_or, Fin.wT_not, Fin.kTup3_eq, Fin.kTup2_eq, Fin.kTup_ok, Fin.kTup_exc, Fin.kLst3_eq, Fin.kLst2_eq, Fin.kLst_ok, Fin.kLst_exc, Fin.kBi2_eq, Fin.kBi_ok, Fin.kBi_exc, Fin.kBm3_eq, Fin.kBm2_ok, Fin.kBm2_exc, Fin.kBm1_eq, Fin.kBm_ok, Fin.kBm_exc, Fin.kMm4_eq, Fin.kMm3_lst, Fin.kMm2_eq, Fin.kMm1_eq, Fin.kMm_ok, Fin.kMm_exc, Fin.kSl4_eq, Fin.kSl3_eq, Fin.kSl2_eq, Fin.kSl1_ok, Fin.kSl1_exc, Fin.kB2_eq, Fin.kB1_ok, Fin.kB1_exc, Fin.kG7_eq, Fin.kG6_eq, Fin.kG5_eq, Fin.kG4_eq, Fin.kG3_ok, Fin.kG3_exc, Fin.kG2_ok, Fin.kG2_exc, Fin.kG1_eq, Fin.kG0_ok, Fin.kG0_exc, Fin.kD6_eq, Fin.kD5_eq, Fin.kD4_eq, Fin.kD3_eq, Fin.kD2_ok, Fin.kD2_exc, Fin.kD1_ok, Fin.kD1_exc, Fin.kC3_eq, Fin.kC2_eq, Fin.kC1_ok, Fin.kC1_exc, Fin.kMv2_eq, Fin.kMv_sl, Fin.kMv_exc, Fin.wEs_nil, Fin.kEs_ok, Fin.kEs_exc, Fin.kEc_ok, Fin.kEc_exc, Fin.wEs_cons, Fin.wR_tup, Fin.wR_lst, Fin.wR_bi, Fin.wR_bm, Fin.wR_mm, Fin.wR_sl, Fin.wSl_non, Fin.wSl_some, Fin.kSl_i, Fin.wR_dic0, Fin.kIsx_e, Fin.wR_isx, Fin.kP_val, Fin.kP_lst, Fin.kP_dic, Fin.kP_exc, Fin.kM_ok, Fin.kM_exc, Fin.kMc_c, Fin.isVal_pool, Fin.wR_comp, Fin.kI_ok, Fin.kI_exc, Fin.kIs_ok, Fin.kIs_exc, Fin.wI_seq, Fin.wI_rng, Fin.kRg_1, Fin.kRg_2, Fin.wS_seq, Fin.kSeq_nx, Fin.kSeq_rt, Fin.kSeq_exc, Fin.kSeq_bk, Fin.kSeq_ct, Fin.wS_pass, Fin.wS_brk, Fin.wS_cnt, Fin.wS_retN, Fin.wS_raise, Fin.kEx_ok, Fin.kEx_exc, Fin.wS_expr, Fin.kRet_ok, Fin.kRet_exc, Fin.wS_ret, Fin.kSet_d, Fin.kSet_fr, Fin.kSet_sl, Fin.kSet_exc, Fin.wS_set, Fin.kUnp_ok, Fin.kUnp_exc, Fin.wS_unp, Fin.kAug_ok, Fin.kAug_exc, Fin.kAugV_val, Fin.wS_aug, Fin.wS_ite, Fin.wS_for, Fin.wS_whl, Fin.kSx2_c, Fin.kSx1_d, Fin.kSx1_exc, Fin.kSx_ok, Fin.kSx_exc, Fin.wS_setIx, Fin.wS_tryx, Fin.wS_tryas, Fin.kTas_nx, Fin.kTas_rt, Fin.kTas_exc, Fin.kLp_nx, Fin.kLp_ct, Fin.kLp_bk, Fin.kLp_rt, Fin.kLp_exc, Fin.wBind_one, Fin.wBind_many, Fin.kV_d, Fin.wR_b2, Fin.wR_dget, Fin.kDs_dic, Fin.wR_dset, Fin.wR_lsI, Fin.kEn_ok, Fin.kEn_exc, Fin.wI_enum, Fin.kRev_ok, Fin.kRev_exc, Fin.wI_rev, Fin.kRr_1, Fin.wI_revr, Fin.kAx2_lst, Fin.kAx_ok, Fin.kAx1_lst, Fin.kAx0_i, Fin.b2T, Fin.isDic, Fin.flOf, Fin.biSorted, Fin.biSum, Fin.intsD_map, Fin.wBin, Fin.wCmp, Fin.binD_ii, Fin.binD_ss, Fin.binD_ll, Fin.binD_li, Fin.binI, Fin.dVal, Fin.mulOk_eq, Fin.powOk_eq, Fin.unD_neg, Fin.unD_inv, Fin.cmpD_eq, Fin.cmpD_ne, Fin.cmpD_lt, Fin.cmpD_le, Fin.cmpD_gt, Fin.cmpD_ge, Fin.cmpD_is, Fin.cmpD_isnot, Fin.cmpD_inl, Fin.cmpD_int, Fin.cmpD_nil, Fin.cmpD_nit, Fin.ixD_l, Fin.ixD_t, Fin.ixD_di, Fin.ixD_ds, Fin.dgD_i, Fin.dgD_s, Fin.isDct_k, Fin.atI_0, Fin.atI_1, Fin.atI_2, Fin.atI_3, Fin.biD, Fin.biLen, Fin.biInt, Fin.biAbs, Fin.biMin, Fin.biList, Fin.biTuple, Fin.isiD, Fin.mmD, Fin.mmAppend, Fin.isLst, Fin.isOwn, Fin.res, Fin.resL, Fin.frzS, Fin.hasSl, Fin.isVal_lst, Fin.isVal_dic, Fin.isVal_val, Fin.asVal, Fin.scalC, Fin.scalD, Fin.Cell.frz, Fin.setC_di, Fin.setC_ds, Fin.setC_l, Fin.bindL, List.length_map, Fin.initE, Fin.shp_int, Fin.shp_bool, Fin.shp_none, Fin.eqv_int, Fin.eqv_bool, Fin.eqv_bi, Fin.eqv_ib, Fin.isND_none, Fin.isND_int, Fin.isND_list, Fin.isND_tuple, Fin.revD_l, Fin.rev_map, Fin.back_val, Fin.back_none, Fin.filter_tt, List.map_cons, List.map_nil, List.length_cons, List.length_nil, List.getElem?_cons_zero, List.getElem?_cons_succ, List.set_cons_zero, List.set_cons_succ, List.replicate_succ, List.replicate_zero, List.cons_append, List.nil_append, Option.getD_some, Option.getD_none, Option.map_some, Option.map_none, Bool.and_true, Bool.true_and, Bool.and_false, Bool.false_and, Bool.and_self, Bool.not_true, Bool.not_false, Bool.true_eq_false, Bool.false_eq_true, Bool.not_eq_true', Bool.not_eq_false', if_true, if_false, ite_true, ite_false, true_and, and_true, false_and, and_false, true_implies, false_implies, implies_true, eq_self, decide_eq_true_eq, decide_eq_false_iff_not, decide_true, decide_false, bne_iff_ne, ne_eq, not_true_eq_false, not_false_eq_true, bne_eq_false_iff_eq, Option.some.injEq, Nat.zero_le, Nat.reduceAdd, Nat.reduceLeDiff, Nat.reduceLT, Nat.reduceBEq, Nat.reduceEqDiff, Int.reduceLE, Int.reduceLT, Int.reduceNeg, Int.reduceEq, okS_l (T := fxL) rfl, ej, ek, wgt_at]
          rw [e2, wsum_snoc]
          refine ⟨fun hne => ⟨some (.val (.int (0 + (jj : Int)))), ?_⟩, fun heq => ⟨some (.val (.int (0 + (jj : Int)))), ?_⟩⟩
          · have q1 : (if k < jj + 1 then (1 : Int) else 0) = if k < jj then 1 else 0 := by
              by_cases z : k < jj
              · rw [if_pos z, if_pos (by omega)]
              · rw [if_neg z, if_neg (by omega)]
            rw [q1]
            have q2 : wsum (xs.take jj) x + wgt y x - (if k < jj then 1 else 0) = wsum (xs.take jj) x - (if k < jj then 1 else 0) + wgt y x := by omega
            rw [q2]
          · have q0 : jj = k := by omega
            subst q0
            have q1 : y = x := by rw [← hyj, ← hxk]
            have q2 : wgt x x = 1 := by simp [wgt]
            rw [q1, q2, if_neg (by omega), if_pos (by omega)]
            have q3 : wsum (xs.take jj) x + 1 - 1 = wsum (xs.take jj) x - 0 := by omega
            rw [q3]
        · rintro e ⟨c8, rfl⟩
          have q1 : ((many : Int) - 0).toNat = xs.length := by omega
          rw [q1, List.take_length, if_pos hk2]
          simp only [Fin.wO_some, Fin.wO_none, Fin.wO_if, Fin.wO_map, Fin.wE_eq, Fin.kO_d, Fin.kO_sl, Fin.kO_lst, Fin.kO_exc, Fin.wR_var, Fin.kVar_val, Fin.kVar_lst, Fin.kVar_dic, Fin.kVar_exc, Fin.kVar_pool, Fin.pres_d, Fin.pres_fr, Fin.pres_sl, Fin.pres_nx, Fin.pres_exc, Fin.kP_pool, Fin.flatD, Fin.flat_ints, Fin.inD_ints, Fin.shp_ints, Fin.shp_nil, Fin.eqv_ints, Fin.eqv_ints_nil, Fin.b2D, Fin.wR_int, Fin.wR_str, Fin.wR_bool, Fin.wR_none, Fin.wR_glob, Fin.kRd0_eq, Fin.w2_bin, Fin.w2_cmp, Fin.w2_ix, Fin.w2_b2, Fin.kO4_eq, Fin.kO3_eq, Fin.kO2_ok, Fin.kO2_exc, Fin.kO1_ok, Fin.kO1_exc, Fin.w1_un, Fin.w1_rev, Fin.w1_isi, Fin.w1_fb, Fin.kU2_eq, Fin.kU1_ok, Fin.kU1_exc, Fin.kH8_eq, Fin.kH7_eq, Fin.kH6_ok, Fin.kH6_exc, Fin.kH5_eq, Fin.kH4_eq, Fin.kH3_eq, Fin.kH2_ok, Fin.kH2_exc, Fin.kH1_ok, Fin.kH1_exc, Fin.wR_bin, Fin.wR_cmp, Fin.wR_ix, Fin.wR_chn, Fin.wR_un, Fin.wR_rev, Fin.wR_isi, Fin.wR_fb, Fin.wR_and, Fin.wR_or, Fin.wR_not, Fin.kAnd_b, Fin.kAnd_exc, Fin.kOr_b, Fin.kOr_exc, Fin.kNot_b, Fin.kNot_exc, Fin.kT_ok, Fin.kT_exc, Fin.kIte_ok, Fin.kIte_exc, Fin.kIteE_ok, Fin.kIteE_exc, Fin.kTand_ok, Fin.kTand_exc, Fin.kTor_ok, Fin.kTor_exc, Fin.kTnot_ok, Fin.kTnot_exc, Fin.kTv_ok, Fin.kTv_exc, Fin.kTb_b, Fin.kTb_i, Fin.kTb_l, Fin.kTb_t, Fin.kTb_n, Fin.kTb_s, Fin.kRv_eq, Fin.kRb_eq, Fin.kRd_eq, Fin.kCmp_eq, Fin.kCi_ok, Fin.kCi_exc, Fin.kFor_ok, Fin.kFor_exc, Fin.wR_ite, Fin.wT_val, Fin.wT_and, Fin.wT_or, Fin.wT_not, Fin.kTup3_eq, Fin.kTup2_eq, Fin.kTup_ok, Fin.kTup_exc, Fin.kLst3_eq, Fin.kLst2_eq, Fin.kLst_ok, Fin.kLst_exc, Fin.kBi2_eq, Fin.kBi_ok, Fin.kBi_exc, Fin.kBm3_eq, Fin.kBm2_ok, Fin.kBm2_exc, Fin.kBm1_eq, Fin.kBm_ok, Fin.kBm_exc, Fin.kMm4_eq, Fin.kMm3_lst, Fin.kMm2_eq, Fin.kMm1_eq, Fin.kMm_ok, Fin.kMm_exc, Fin.kSl4_eq, Fin.kSl3_eq, Fin.kSl2_eq, Fin.kSl1_ok, Fin.kSl1_exc, Fin.kB2_eq, Fin.kB1_ok, Fin.kB1_exc, Fin.kG7_eq, Fin.kG6_eq, Fin.kG5_eq, Fin.kG4_eq, Fin.kG3_ok, Fin.kG3_exc, Fin.kG2_ok, Fin.kG2_exc, Fin.kG1_eq, Fin.kG0_ok, Fin.kG0_exc, Fin.kD6_eq, Fin.kD5_eq, Fin.kD4_eq, Fin.kD3_eq, Fin.kD2_ok, Fin.kD2_exc, Fin.kD1_ok, Fin.kD1_exc, Fin.kC3_eq, Fin.kC2_eq, Fin.kC1_ok, Fin.kC1_exc, Fin.kMv2_eq, Fin.kMv_sl, Fin.kMv_exc, Fin.wEs_nil, Fin.kEs_ok, Fin.kEs_exc, Fin.kEc_ok, Fin.kEc_exc, Fin.wEs_cons, Fin.wR_tup, Fin.wR_lst, Fin.wR_bi, Fin.wR_bm, Fin.wR_mm, Fin.wR_sl, Fin.wSl_non, Fin.wSl_some, Fin.kSl_i, Fin.wR_dic0, Fin.kIsx_e, Fin.wR_isx, Fin.kP_val, Fin.kP_lst, Fin.kP_dic, Fin.kP_exc, Fin.kM_ok, Fin.kM_exc, Fin.kMc_c, Fin.isVal_pool, Fin.wR_comp, Fin.kI_ok, Fin.kI_exc, Fin.kIs_ok, Fin.kIs_exc, Fin.wI_seq, Fin.wI_rng, Fin.kRg_1, Fin.kRg_2, Fin.wS_seq, Fin.kSeq_nx, Fin.kSeq_rt, Fin.kSeq_exc, Fin.kSeq_bk, Fin.kSeq_ct, Fin.wS_pass, Fin.wS_brk, Fin.wS_cnt, Fin.wS_retN, Fin.wS_raise, Fin.kEx_ok, Fin.kEx_exc, Fin.wS_expr, Fin.kRet_ok, Fin.kRet_exc, Fin.wS_ret, Fin.kSet_d, Fin.kSet_fr, Fin.kSet_sl, Fin.kSet_exc, Fin.wS_set, Fin.kUnp_ok, Fin.kUnp_exc, Fin.wS_unp, Fin.kAug_ok, Fin.kAug_exc, Fin.kAugV_val, Fin.wS_aug, Fin.wS_ite, Fin.wS_for, Fin.wS_whl, Fin.kSx2_c, Fin.kSx1_d, Fin.kSx1_exc, Fin.kSx_ok, Fin.kSx_exc, Fin.wS_setIx, Fin.wS_tryx, Fin.wS_tryas, Fin.kTas_nx, Fin.kTas_rt, Fin.kTas_exc, Fin.kLp_nx, Fin.kLp_ct, Fin.kLp_bk, Fin.kLp_rt, Fin.kLp_exc, Fin.wBind_one, Fin.wBind_many, Fin.kV_d, Fin.wR_b2, Fin.wR_dget, Fin.kDs_dic, Fin.wR_dset, Fin.wR_lsI, Fin.kEn_ok, Fin.kEn_exc, Fin.wI_enum, Fin.kRev_ok, Fin.kRev_exc, Fin.wI_rev, Fin.kRr_1, Fin.wI_revr, Fin.kAx2_lst, Fin.kAx_ok, Fin.kAx1_lst, Fin.kAx0_i, Fin.b2T, Fin.isDic, Fin.flOf, Fin.biSorted, Fin.biSum, Fin.intsD_map, Fin.wBin, Fin.wCmp, Fin.binD_ii, Fin.binD_ss, Fin.binD_ll, Fin.binD_li, Fin.binI, Fin.dVal, Fin.mulOk_eq, Fin.powOk_eq, Fin.unD_neg, Fin.unD_inv, Fin.cmpD_eq, Fin.cmpD_ne, Fin.cmpD_lt, Fin.cmpD_le, Fin.cmpD_gt, Fin.cmpD_ge, Fin.cmpD_is, Fin.cmpD_isnot, Fin.cmpD_inl, Fin.cmpD_int, Fin.cmpD_nil, Fin.cmpD_nit, Fin.ixD_l, Fin.ixD_t, Fin.ixD_di, Fin.ixD_ds, Fin.dgD_i, Fin.dgD_s, Fin.isDct_k, Fin.atI_0, Fin.atI_1, Fin.atI_2, Fin.atI_3, Fin.biD, Fin.biLen, Fin.biInt, Fin.biAbs, Fin.biMin, Fin.biList, Fin.biTuple, Fin.isiD, Fin.mmD, Fin.mmAppend, Fin.isLst, Fin.isOwn, Fin.res, Fin.resL, Fin.frzS, Fin.hasSl, Fin.isVal_lst, Fin.isVal_dic, Fin.isVal_val, Fin.asVal, Fin.scalC, Fin.scalD, Fin.Cell.frz, Fin.setC_di, Fin.setC_ds, Fin.setC_l, Fin.bindL, List.length_map, Fin.initE, Fin.shp_int, Fin.shp_bool, Fin.shp_none, Fin.eqv_int, Fin.eqv_bool, Fin.eqv_bi, Fin.eqv_ib, Fin.isND_none, Fin.isND_int, Fin.isND_list, Fin.isND_tuple, Fin.revD_l, Fin.rev_map, Fin.back_val, Fin.back_none, Fin.filter_tt, List.map_cons, List.map_nil, List.length_cons, List.length_nil, List.getElem?_cons_zero, List.getElem?_cons_succ, List.set_cons_zero, List.set_cons_succ, List.replicate_succ, List.replicate_zero, List.cons_append, List.nil_append, Option.getD_some, Option.getD_none, Option.map_some, Option.map_none, Bool.and_true, Bool.true_and, Bool.and_false, Bool.false_and, Bool.and_self, Bool.not_true, Bool.not_false, Bool.true_eq_false, Bool.false_eq_true, Bool.not_eq_true', Bool.not_eq_false', if_true, if_false, ite_true, ite_false, true_and, and_true, false_and, and_false, true_implies, false_implies, implies_true, eq_self, decide_eq_true_eq, decide_eq_false_iff_not, decide_true, decide_false, bne_iff_ne, ne_eq, not_true_eq_false, not_false_eq_true, bne_eq_false_iff_eq, Option.some.injEq, Nat.zero_le, Nat.reduceAdd, Nat.reduceLeDiff, Nat.reduceLT, Nat.reduceBEq, Nat.reduceEqDiff, Int.reduceLE, Int.reduceLT, Int.reduceNeg, Int.reduceEq]
          have q2 : (cmpd xs).take (k + 1) = (cmpd xs).take k ++ [wsum xs x - 1] := by
            have : k < (cmpd xs).length := by simp [cmpd]; exact hk2
            rw [List.take_succ, List.getElem?_eq_getElem this]
            simp [cmpd, hxk]
          refine ⟨?_, _, _, _, by rw [q2, List.map_append]; rfl⟩
          rw [line_v]
          simp
          omega
      · rintro e ⟨c4, c7, c8, rfl⟩
        have q1 : ((many : Int) - 0).toNat = (cmpd xs).length := by simp [cmpd]; omega
        rw [q1, List.take_length]
        simp only [Fin.wO_some, Fin.wO_none, Fin.wO_if, Fin.wO_map, Fin.wE_eq, Fin.kO_d, Fin.kO_sl, Fin.kO_lst, Fin.kO_exc, Fin.wR_var, Fin.kVar_val, Fin.kVar_lst, Fin.kVar_dic, Fin.kVar_exc, Fin.kVar_pool, Fin.pres_d, Fin.pres_fr, Fin.pres_sl, Fin.pres_nx, Fin.pres_exc, Fin.kP_pool, Fin.flatD, Fin.flat_ints, Fin.inD_ints, Fin.shp_ints, Fin.shp_nil, Fin.eqv_ints, Fin.eqv_ints_nil, Fin.b2D, Fin.wR_int, Fin.wR_str, Fin.wR_bool, Fin.wR_none, Fin.wR_glob, Fin.kRd0_eq, Fin.w2_bin, Fin.w2_cmp, Fin.w2_ix, Fin.w2_b2, Fin.kO4_eq, Fin.kO3_eq, Fin.kO2_ok, Fin.kO2_exc, Fin.kO1_ok, Fin.kO1_exc, Fin.w1_un, Fin.w1_rev, Fin.w1_isi, Fin.w1_fb, Fin.kU2_eq, Fin.kU1_ok, Fin.kU1_exc, Fin.kH8_eq, Fin.kH7_eq, Fin.kH6_ok, Fin.kH6_exc, Fin.kH5_eq, Fin.kH4_eq, Fin.kH3_eq, Fin.kH2_ok, Fin.kH2_exc, Fin.kH1_ok, Fin.kH1_exc, Fin.wR_bin, Fin.wR_cmp, Fin.wR_ix, Fin.wR_chn, Fin.wR_un, Fin.wR_rev, Fin.wR_isi, Fin.wR_fb, Fin.wR_and, Fin.wR_or, Fin.wR_not, Fin.kAnd_b, Fin.kAnd_exc, Fin.kOr_b, Fin.kOr_exc, Fin.kNot_b, Fin.kNot_exc, Fin.kT_ok, Fin.kT_exc, Fin.kIte_ok, Fin.kIte_exc, Fin.kIteE_ok, Fin.kIteE_exc, Fin.kTand_ok, Fin.kTand_exc, Fin.kTor_ok, Fin.kTor_exc, Fin.kTnot_ok, Fin.kTnot_exc, Fin.kTv_ok, Fin.kTv_exc, Fin.kTb_b, Fin.kTb_i, Fin.kTb_l, Fin.kTb_t, Fin.kTb_n, Fin.kTb_s, Fin.kRv_eq, Fin.kRb_eq, Fin.kRd_eq, Fin.kCmp_eq, Fin.kCi_ok, Fin.kCi_exc, Fin.kFor_ok, Fin.kFor_exc, Fin.wR_ite, Fin.wT_val, Fin.wT_and, Fin.wT_or, Fin.wT_not, Fin.kTup3_eq, Fin.kTup2_eq, Fin.kTup_ok, Fin.kTup_exc, Fin.kLst3_eq, Fin.kLst2_eq, Fin.kLst_ok, Fin.kLst_exc, Fin.kBi2_eq, Fin.kBi_ok, Fin.kBi_exc, Fin.kBm3_eq, Fin.kBm2_ok, Fin.kBm2_exc, Fin.kBm1_eq, Fin.kBm_ok, Fin.kBm_exc, Fin.kMm4_eq, Fin.kMm3_lst, Fin.kMm2_eq, Fin.kMm1_eq, Fin.kMm_ok, Fin.kMm_exc, Fin.kSl4_eq, Fin.kSl3_eq, Fin.kSl2_eq, Fin.kSl1_ok, Fin.kSl1_exc, Fin.kB2_eq, Fin.kB1_ok, Fin.kB1_exc, Fin.kG7_eq, Fin.kG6_eq, Fin.kG5_eq, Fin.kG4_eq, Fin.kG3_ok, Fin.kG3_exc, Fin.kG2_ok, Fin.kG2_exc, Fin.kG1_eq, Fin.kG0_ok, Fin.kG0_exc, Fin.kD6_eq, Fin.kD5_eq, Fin.kD4_eq, Fin.kD3_eq, Fin.kD2_ok, Fin.kD2_exc, Fin.kD1_ok, Fin.kD1_exc, Fin.kC3_eq, Fin.kC2_eq, Fin.kC1_ok, Fin.kC1_exc, Fin.kMv2_eq, Fin.kMv_sl, Fin.kMv_exc, Fin.wEs_nil, Fin.kEs_ok, Fin.kEs_exc, Fin.kEc_ok, Fin.kEc_exc, Fin.wEs_cons, Fin.wR_tup, Fin.wR_lst, Fin.wR_bi, Fin.wR_bm, Fin.wR_mm, Fin.wR_sl, Fin.wSl_non, Fin.wSl_some, Fin.kSl_i, Fin.wR_dic0, Fin.kIsx_e, Fin.wR_isx, Fin.kP_val, Fin.kP_lst, Fin.kP_dic, Fin.kP_exc, Fin.kM_ok, Fin.kM_exc, Fin.kMc_c, Fin.isVal_pool, Fin.wR_comp, Fin.kI_ok, Fin.kI_exc, Fin.kIs_ok, Fin.kIs_exc, Fin.wI_seq, Fin.wI_rng, Fin.kRg_1, Fin.kRg_2, Fin.wS_seq, Fin.kSeq_nx, Fin.kSeq_rt, Fin.kSeq_exc, Fin.kSeq_bk, Fin.kSeq_ct, Fin.wS_pass, Fin.wS_brk, Fin.wS_cnt, Fin.wS_retN, Fin.wS_raise, Fin.kEx_ok, Fin.kEx_exc, Fin.wS_expr, Fin.kRet_ok, Fin.kRet_exc, Fin.wS_ret, Fin.kSet_d, Fin.kSet_fr, Fin.kSet_sl, Fin.kSet_exc, Fin.wS_set, Fin.kUnp_ok, Fin.kUnp_exc, Fin.wS_unp, Fin.kAug_ok, Fin.kAug_exc, Fin.kAugV_val, Fin.wS_aug, Fin.wS_ite, Fin.wS_for, Fin.wS_whl, Fin.kSx2_c, Fin.kSx1_d, Fin.kSx1_exc, Fin.kSx_ok, Fin.kSx_exc, Fin.wS_setIx, Fin.wS_tryx, Fin.wS_tryas, Fin.kTas_nx, Fin.kTas_rt, Fin.kTas_exc, Fin.kLp_nx, Fin.kLp_ct, Fin.kLp_bk, Fin.kLp_rt, Fin.kLp_exc, Fin.wBind_one, Fin.wBind_many, Fin.kV_d, Fin.wR_b2, Fin.wR_dget, Fin.kDs_dic, Fin.wR_dset, Fin.wR_lsI, Fin.kEn_ok, Fin.kEn_exc, Fin.wI_enum, Fin.kRev_ok, Fin.kRev_exc, Fin.wI_rev, Fin.kRr_1, Fin.wI_revr, Fin.kAx2_lst, Fin.kAx_ok, Fin.kAx1_lst, Fin.kAx0_i, Fin.b2T, Fin.isDic, Fin.flOf, Fin.biSorted, Fin.biSum, Fin.intsD_map, Fin.wBin, Fin.wCmp, Fin.binD_ii, Fin.binD_ss, Fin.binD_ll, Fin.binD_li, Fin.binI, Fin.dVal, Fin.mulOk_eq, Fin.powOk_eq, Fin.unD_neg, Fin.unD_inv, Fin.cmpD_eq, Fin.cmpD_ne, Fin.cmpD_lt, Fin.cmpD_le, Fin.cmpD_gt, Fin.cmpD_ge, Fin.cmpD_is, Fin.cmpD_isnot, Fin.cmpD_inl, Fin.cmpD_int, Fin.cmpD_nil, Fin.cmpD_nit, Fin.ixD_l, Fin.ixD_t, Fin.ixD_di, Fin.ixD_ds, Fin.dgD_i, Fin.dgD_s, Fin.isDct_k, Fin.atI_0, Fin.atI_1, Fin.atI_2, Fin.atI_3, Fin.biD, Fin.biLen, Fin.biInt, Fin.biAbs, Fin.biMin, Fin.biList, Fin.biTuple, Fin.isiD, Fin.mmD, Fin.mmAppend, Fin.isLst, Fin.isOwn, Fin.res, Fin.resL, Fin.frzS, Fin.hasSl, Fin.isVal_lst, Fin.isVal_dic, Fin.isVal_val, Fin.asVal, Fin.scalC, Fin.scalD, Fin.Cell.frz, Fin.setC_di, Fin.setC_ds, Fin.setC_l, Fin.bindL, List.length_map, Fin.initE, Fin.shp_int, Fin.shp_bool, Fin.shp_none, Fin.eqv_int, Fin.eqv_bool, Fin.eqv_bi, Fin.eqv_ib, Fin.isND_none, Fin.isND_int, Fin.isND_list, Fin.isND_tuple, Fin.revD_l, Fin.rev_map, Fin.back_val, Fin.back_none, Fin.filter_tt, List.map_cons, List.map_nil, List.length_cons, List.length_nil, List.getElem?_cons_zero, List.getElem?_cons_succ, List.set_cons_zero, List.set_cons_succ, List.replicate_succ, List.replicate_zero, List.cons_append, List.nil_append, Option.getD_some, Option.getD_none, Option.map_some, Option.map_none, Bool.and_true, Bool.true_and, Bool.and_false, Bool.false_and, Bool.and_self, Bool.not_true, Bool.not_false, Bool.true_eq_false, Bool.false_eq_true, Bool.not_eq_true', Bool.not_eq_false', if_true, if_false, ite_true, ite_false, true_and, and_true, false_and, and_false, true_implies, false_implies, implies_true, eq_self, decide_eq_true_eq, decide_eq_false_iff_not, decide_true, decide_false, bne_iff_ne, ne_eq, not_true_eq_false, not_false_eq_true, bne_eq_false_iff_eq, Option.some.injEq, Nat.zero_le, Nat.reduceAdd, Nat.reduceLeDiff, Nat.reduceLT, Nat.reduceBEq, Nat.reduceEqDiff, Int.reduceLE, Int.reduceLT, Int.reduceNeg, Int.reduceEq, okS_l (T := fxL) rfl, wC l_law_law_ints, wC l_law_compared, compared_ok fuel xs (by omega), ints_same _ _ _ _ _ _ l_law_ints_law_int l_law_int_law_is_integer rfl (cmpd xs) (by simp [cmpd]; omega)]
        have hlen : (cmpd xs).sum = (many : Int) * (many - 1) := by rw [cmpd_sum, hx]
        refine ⟨by omega, fun z => absurd hlen z, fun _ => ?_⟩
        simp only [Fin.wO_some, Fin.wO_none, Fin.wO_if, Fin.wO_map, Fin.wE_eq, Fin.kO_d, Fin.kO_sl, Fin.kO_lst, Fin.kO_exc, Fin.wR_var, Fin.kVar_val, Fin.kVar_lst, Fin.kVar_dic, Fin.kVar_exc, Fin.kVar_pool, Fin.pres_d, Fin.pres_fr, Fin.pres_sl, Fin.pres_nx, Fin.pres_exc, Fin.kP_pool, Fin.flatD, Fin.flat_ints, Fin.inD_ints, Fin.shp_ints, Fin.shp_nil, Fin.eqv_ints, Fin.eqv_ints_nil, Fin.b2D, Fin.wR_int, Fin.wR_str, Fin.wR_bool, Fin.wR_none, Fin.wR_glob, Fin.kRd0_eq, Fin.w2_bin, Fin.w2_cmp, Fin.w2_ix, Fin.w2_b2, Fin.kO4_eq, Fin.kO3_eq, Fin.kO2_ok, Fin.kO2_exc, Fin.kO1_ok, Fin.kO1_exc, Fin.w1_un, Fin.w1_rev, Fin.w1_isi, Fin.w1_fb, Fin.kU2_eq, Fin.kU1_ok, Fin.kU1_exc, Fin.kH8_eq, Fin.kH7_eq, Fin.kH6_ok, Fin.kH6_exc, Fin.kH5_eq, Fin.kH4_eq, Fin.kH3_eq, Fin.kH2_ok, Fin.kH2_exc, Fin.kH1_ok, Fin.kH1_exc, Fin.wR_bin, Fin.wR_cmp, Fin.wR_ix, Fin.wR_chn, Fin.wR_un, Fin.wR_rev, Fin.wR_isi, Fin.wR_fb, Fin.wR_and, Fin.wR_or, Fin.wR_not, Fin.kAnd_b, Fin.kAnd_exc, Fin.kOr_b, Fin.kOr_exc, Fin.kNot_b, Fin.kNot_exc, Fin.kT_ok, Fin.kT_exc, Fin.kIte_ok, Fin.kIte_exc, Fin.kIteE_ok, Fin.kIteE_exc, Fin.kTand_ok, Fin.kTand_exc, Fin.kTor_ok, Fin.kTor_exc, Fin.kTnot_ok, Fin.kTnot_exc, Fin.kTv_ok, Fin.kTv_exc, Fin.kTb_b, Fin.kTb_i, Fin.kTb_l, Fin.kTb_t, Fin.kTb_n, Fin.kTb_s, Fin.kRv_eq, Fin.kRb_eq, Fin.kRd_eq, Fin.kCmp_eq, Fin.kCi_ok, Fin.kCi_exc, Fin.kFor_ok, Fin.kFor_exc, Fin.wR_ite, Fin.wT_val, Fin.wT_and, Fin.wT_or, Fin.wT_not, Fin.kTup3_eq, Fin.kTup2_eq, Fin.kTup_ok, Fin.kTup_exc, Fin.kLst3_eq, Fin.kLst2_eq, Fin.kLst_ok, Fin.kLst_exc, Fin.kBi2_eq, Fin.kBi_ok, Fin.kBi_exc, Fin.kBm3_eq, Fin.kBm2_ok, Fin.kBm2_exc, Fin.kBm1_eq, Fin.kBm_ok, Fin.kBm_exc, Fin.kMm4_eq, Fin.kMm3_lst, Fin.kMm2_eq, Fin.kMm1_eq, Fin.kMm_ok, Fin.kMm_exc, Fin.kSl4_eq, Fin.kSl3_eq, Fin.kSl2_eq, Fin.kSl1_ok, Fin.kSl1_exc, Fin.kB2_eq, Fin.kB1_ok, Fin.kB1_exc, Fin.kG7_eq, Fin.kG6_eq, Fin.kG5_eq, Fin.kG4_eq, Fin.kG3_ok, Fin.kG3_exc, Fin.kG2_ok, Fin.kG2_exc, Fin.kG1_eq, Fin.kG0_ok, Fin.kG0_exc, Fin.kD6_eq, Fin.kD5_eq, Fin.kD4_eq, Fin.kD3_eq, Fin.kD2_ok, Fin.kD2_exc, Fin.kD1_ok, Fin.kD1_exc, Fin.kC3_eq, Fin.kC2_eq, Fin.kC1_ok, Fin.kC1_exc, Fin.kMv2_eq, Fin.kMv_sl, Fin.kMv_exc, Fin.wEs_nil, Fin.kEs_ok, Fin.kEs_exc, Fin.kEc_ok, Fin.kEc_exc, Fin.wEs_cons, Fin.wR_tup, Fin.wR_lst, Fin.wR_bi, Fin.wR_bm, Fin.wR_mm, Fin.wR_sl, Fin.wSl_non, Fin.wSl_some, Fin.kSl_i, Fin.wR_dic0, Fin.kIsx_e, Fin.wR_isx, Fin.kP_val, Fin.kP_lst, Fin.kP_dic, Fin.kP_exc, Fin.kM_ok, Fin.kM_exc, Fin.kMc_c, Fin.isVal_pool, Fin.wR_comp, Fin.kI_ok, Fin.kI_exc, Fin.kIs_ok, Fin.kIs_exc, Fin.wI_seq, Fin.wI_rng, Fin.kRg_1, Fin.kRg_2, Fin.wS_seq, Fin.kSeq_nx, Fin.kSeq_rt, Fin.kSeq_exc, Fin.kSeq_bk, Fin.kSeq_ct, Fin.wS_pass, Fin.wS_brk, Fin.wS_cnt, Fin.wS_retN, Fin.wS_raise, Fin.kEx_ok, Fin.kEx_exc, Fin.wS_expr, Fin.kRet_ok, Fin.kRet_exc, Fin.wS_ret, Fin.kSet_d, Fin.kSet_fr, Fin.kSet_sl, Fin.kSet_exc, Fin.wS_set, Fin.kUnp_ok, Fin.kUnp_exc, Fin.wS_unp, Fin.kAug_ok, Fin.kAug_exc, Fin.kAugV_val, Fin.wS_aug, Fin.wS_ite, Fin.wS_for, Fin.wS_whl, Fin.kSx2_c, Fin.kSx1_d, Fin.kSx1_exc, Fin.kSx_ok, Fin.kSx_exc, Fin.wS_setIx, Fin.wS_tryx, Fin.wS_tryas, Fin.kTas_nx, Fin.kTas_rt, Fin.kTas_exc, Fin.kLp_nx, Fin.kLp_ct, Fin.kLp_bk, Fin.kLp_rt, Fin.kLp_exc, Fin.wBind_one, Fin.wBind_many, Fin.kV_d, Fin.wR_b2, Fin.wR_dget, Fin.kDs_dic, Fin.wR_dset, Fin.wR_lsI, Fin.kEn_ok, Fin.kEn_exc, Fin.wI_enum, Fin.kRev_ok, Fin.kRev_exc, Fin.wI_rev, Fin.kRr_1, Fin.wI_revr, Fin.kAx2_lst, Fin.kAx_ok, Fin.kAx1_lst, Fin.kAx0_i, Fin.b2T, Fin.isDic, Fin.flOf, Fin.biSorted, Fin.biSum, Fin.intsD_map, Fin.wBin, Fin.wCmp, Fin.binD_ii, Fin.binD_ss, Fin.binD_ll, Fin.binD_li, Fin.binI, Fin.dVal, Fin.mulOk_eq, Fin.powOk_eq, Fin.unD_neg, Fin.unD_inv, Fin.cmpD_eq, Fin.cmpD_ne, Fin.cmpD_lt, Fin.cmpD_le, Fin.cmpD_gt, Fin.cmpD_ge, Fin.cmpD_is, Fin.cmpD_isnot, Fin.cmpD_inl, Fin.cmpD_int, Fin.cmpD_nil, Fin.cmpD_nit, Fin.ixD_l, Fin.ixD_t, Fin.ixD_di, Fin.ixD_ds, Fin.dgD_i, Fin.dgD_s, Fin.isDct_k, Fin.atI_0, Fin.atI_1, Fin.atI_2, Fin.atI_3, Fin.biD, Fin.biLen, Fin.biInt, Fin.biAbs, Fin.biMin, Fin.biList, Fin.biTuple, Fin.isiD, Fin.mmD, Fin.mmAppend, Fin.isLst, Fin.isOwn, Fin.res, Fin.resL, Fin.frzS, Fin.hasSl, Fin.isVal_lst, Fin.isVal_dic, Fin.isVal_val, Fin.asVal, Fin.scalC, Fin.scalD, Fin.Cell.frz, Fin.setC_di, Fin.setC_ds, Fin.setC_l, Fin.bindL, List.length_map, Fin.initE, Fin.shp_int, Fin.shp_bool, Fin.shp_none, Fin.eqv_int, Fin.eqv_bool, Fin.eqv_bi, Fin.eqv_ib, Fin.isND_none, Fin.isND_int, Fin.isND_list, Fin.isND_tuple, Fin.revD_l, Fin.rev_map, Fin.back_val, Fin.back_none, Fin.filter_tt, List.map_cons, List.map_nil, List.length_cons, List.length_nil, List.getElem?_cons_zero, List.getElem?_cons_succ, List.set_cons_zero, List.set_cons_succ, List.replicate_succ, List.replicate_zero, List.cons_append, List.nil_append, Option.getD_some, Option.getD_none, Option.map_some, Option.map_none, Bool.and_true, Bool.true_and, Bool.and_false, Bool.false_and, Bool.and_self, Bool.not_true, Bool.not_false, Bool.true_eq_false, Bool.false_eq_true, Bool.not_eq_true', Bool.not_eq_false', if_true, if_false, ite_true, ite_false, true_and, and_true, false_and, and_false, true_implies, false_implies, implies_true, eq_self, decide_eq_true_eq, decide_eq_false_iff_not, decide_true, decide_false, bne_iff_ne, ne_eq, not_true_eq_false, not_false_eq_true, bne_eq_false_iff_eq, Option.some.injEq, Nat.zero_le, Nat.reduceAdd, Nat.reduceLeDiff, Nat.reduceLT, Nat.reduceBEq, Nat.reduceEqDiff, Int.reduceLE, Int.reduceLT, Int.reduceNeg, Int.reduceEq, okS_l (T := fxL) rfl, wC l_law_compared, compared_ok fuel xs.reverse (by simp; omega), cmpd_rev]
        exact ⟨q, _, _, _, _, _, _, _, _, by omega, by simp [rngL] at q2; omega, rfl⟩
  · rintro e ⟨at_, c2, c3, c4, c5, c6, c7, c8, c9, ha0, ha1, rfl⟩
    simp only [Fin.wO_some, Fin.wO_none, Fin.wO_if, Fin.wO_map, Fin.wE_eq, Fin.kO_d, Fin.kO_sl, Fin.kO_lst, Fin.kO_exc, Fin.wR_var, Fin.kVar_val, Fin.kVar_lst, Fin.kVar_dic, Fin.kVar_exc, Fin.kVar_pool, Fin.pres_d, Fin.pres_fr, Fin.pres_sl, Fin.pres_nx, Fin.pres_exc, Fin.kP_pool, Fin.flatD, Fin.flat_ints, Fin.inD_ints, Fin.shp_ints, Fin.shp_nil, Fin.eqv_ints, Fin.eqv_ints_nil, Fin.b2D, Fin.wR_int, Fin.wR_str, Fin.wR_bool, Fin.wR_none, Fin.wR_glob, Fin.kRd0_eq, Fin.w2_bin, Fin.w2_cmp, Fin.w2_ix, Fin.w2_b2, Fin.kO4_eq, Fin.kO3_eq, Fin.kO2_ok, Fin.kO2_exc, Fin.kO1_ok, Fin.kO1_exc, Fin.w1_un, Fin.w1_rev, Fin.w1_isi, Fin.w1_fb, Fin.kU2_eq, Fin.kU1_ok, Fin.kU1_exc, Fin.kH8_eq, Fin.kH7_eq, Fin.kH6_ok, Fin.kH6_exc, Fin.kH5_eq, Fin.kH4_eq, Fin.kH3_eq, Fin.kH2_ok, Fin.kH2_exc, Fin.kH1_ok, Fin.kH1_exc, Fin.wR_bin, Fin.wR_cmp, Fin.wR_ix, Fin.wR_chn, Fin.wR_un, Fin.wR_rev, Fin.wR_isi, Fin.wR_fb, Fin.wR_and, Fin.wR_or, Fin.wR_not, Fin.kAnd_b, Fin.kAnd_exc, Fin.kOr_b, Fin.kOr_exc, Fin.kNot_b, Fin.kNot_exc, Fin.kT_ok, Fin.kT_exc, Fin.kIte_ok, Fin.kIte_exc, Fin.kIteE_ok, Fin.kIteE_exc, Fin.kTand_ok, Fin.kTand_exc, Fin.kTor_ok, Fin.kTor_exc, Fin.kTnot_ok, Fin.kTnot_exc, Fin.kTv_ok, Fin.kTv_exc, Fin.kTb_b, Fin.kTb_i, Fin.kTb_l, Fin.kTb_t, Fin.kTb_n, Fin.kTb_s, Fin.kRv_eq, Fin.kRb_eq, Fin.kRd_eq, Fin.kCmp_eq, Fin.kCi_ok, Fin.kCi_exc, Fin.kFor_ok, Fin.kFor_exc, Fin.wR_ite, Fin.wT_val, Fin.wT_and, Fin.wT_or, Fin.wT_not, Fin.kTup3_eq, Fin.kTup2_eq, Fin.kTup_ok, Fin.kTup_exc, Fin.kLst3_eq, Fin.kLst2_eq, Fin.kLst_ok, Fin.kLst_exc, Fin.kBi2_eq, Fin.kBi_ok, Fin.kBi_exc, Fin.kBm3_eq, Fin.kBm2_ok, Fin.kBm2_exc, Fin.kBm1_eq, Fin.kBm_ok, Fin.kBm_exc, Fin.kMm4_eq, Fin.kMm3_lst, Fin.kMm2_eq, Fin.kMm1_eq, Fin.kMm_ok, Fin.kMm_exc, Fin.kSl4_eq, Fin.kSl3_eq, Fin.kSl2_eq, Fin.kSl1_ok, Fin.kSl1_exc, Fin.kB2_eq, Fin.kB1_ok, Fin.kB1_exc, Fin.kG7_eq, Fin.kG6_eq, Fin.kG5_eq, Fin.kG4_eq, Fin.kG3_ok, Fin.kG3_exc, Fin.kG2_ok, Fin.kG2_exc, Fin.kG1_eq, Fin.kG0_ok, Fin.kG0_exc, Fin.kD6_eq, Fin.kD5_eq, Fin.kD4_eq, Fin.kD3_eq, Fin.kD2_ok, Fin.kD2_exc, Fin.kD1_ok, Fin.kD1_exc, Fin.kC3_eq, Fin.kC2_eq, Fin.kC1_ok, Fin.kC1_exc, Fin.kMv2_eq, Fin.kMv_sl, Fin.kMv_exc, Fin.wEs_nil, Fin.kEs_ok, Fin.kEs_exc, Fin.kEc_ok, Fin.kEc_exc, Fin.wEs_cons, Fin.wR_tup, Fin.wR_lst, Fin.wR_bi, Fin.wR_bm, Fin.wR_mm, Fin.wR_sl, Fin.wSl_non, Fin.wSl_some, Fin.kSl_i, Fin.wR_dic0, Fin.kIsx_e, Fin.wR_isx, Fin.kP_val, Fin.kP_lst, Fin.kP_dic, Fin.kP_exc, Fin.kM_ok, Fin.kM_exc, Fin.kMc_c, Fin.isVal_pool, Fin.wR_comp, Fin.kI_ok, Fin.kI_exc, Fin.kIs_ok, Fin.kIs_exc, Fin.wI_seq, Fin.wI_rng, Fin.kRg_1, Fin.kRg_2, Fin.wS_seq, Fin.kSeq_nx, Fin.kSeq_rt, Fin.kSeq_exc, Fin.kSeq_bk, Fin.kSeq_ct, Fin.wS_pass, Fin.wS_brk, Fin.wS_cnt, Fin.wS_retN, Fin.wS_raise, Fin.kEx_ok, Fin.kEx_exc, Fin.wS_expr, Fin.kRet_ok, Fin.kRet_exc, Fin.wS_ret, Fin.kSet_d, Fin.kSet_fr, Fin.kSet_sl, Fin.kSet_exc, Fin.wS_set, Fin.kUnp_ok, Fin.kUnp_exc, Fin.wS_unp, Fin.kAug_ok, Fin.kAug_exc, Fin.kAugV_val, Fin.wS_aug, Fin.wS_ite, Fin.wS_for, Fin.wS_whl, Fin.kSx2_c, Fin.kSx1_d, Fin.kSx1_exc, Fin.kSx_ok, Fin.kSx_exc, Fin.wS_setIx, Fin.wS_tryx, Fin.wS_tryas, Fin.kTas_nx, Fin.kTas_rt, Fin.kTas_exc, Fin.kLp_nx, Fin.kLp_ct, Fin.kLp_bk, Fin.kLp_rt, Fin.kLp_exc, Fin.wBind_one, Fin.wBind_many, Fin.kV_d, Fin.wR_b2, Fin.wR_dget, Fin.kDs_dic, Fin.wR_dset, Fin.wR_lsI, Fin.kEn_ok, Fin.kEn_exc, Fin.wI_enum, Fin.kRev_ok, Fin.kRev_exc, Fin.wI_rev, Fin.kRr_1, Fin.wI_revr, Fin.kAx2_lst, Fin.kAx_ok, Fin.kAx1_lst, Fin.kAx0_i, Fin.b2T, Fin.isDic, Fin.flOf, Fin.biSorted, Fin.biSum, Fin.intsD_map, Fin.wBin, Fin.wCmp, Fin.binD_ii, Fin.binD_ss, Fin.binD_ll, Fin.binD_li, Fin.binI, Fin.dVal, Fin.mulOk_eq, Fin.powOk_eq, Fin.unD_neg, Fin.unD_inv, Fin.cmpD_eq, Fin.cmpD_ne, Fin.cmpD_lt, Fin.cmpD_le, Fin.cmpD_gt, Fin.cmpD_ge, Fin.cmpD_is, Fin.cmpD_isnot, Fin.cmpD_inl, Fin.cmpD_int, Fin.cmpD_nil, Fin.cmpD_nit, Fin.ixD_l, Fin.ixD_t, Fin.ixD_di, Fin.ixD_ds, Fin.dgD_i, Fin.dgD_s, Fin.isDct_k, Fin.atI_0, Fin.atI_1, Fin.atI_2, Fin.atI_3, Fin.biD, Fin.biLen, Fin.biInt, Fin.biAbs, Fin.biMin, Fin.biList, Fin.biTuple, Fin.isiD, Fin.mmD, Fin.mmAppend, Fin.isLst, Fin.isOwn, Fin.res, Fin.resL, Fin.frzS, Fin.hasSl, Fin.isVal_lst, Fin.isVal_dic, Fin.isVal_val, Fin.asVal, Fin.scalC, Fin.scalD, Fin.Cell.frz, Fin.setC_di, Fin.setC_ds, Fin.setC_l, Fin.bindL, List.length_map, Fin.initE, Fin.shp_int, Fin.shp_bool, Fin.shp_none, Fin.eqv_int, Fin.eqv_bool, Fin.eqv_bi, Fin.eqv_ib, Fin.isND_none, Fin.isND_int, Fin.isND_list, Fin.isND_tuple, Fin.revD_l, Fin.rev_map, Fin.back_val, Fin.back_none, Fin.filter_tt, List.map_cons, List.map_nil, List.length_cons, List.length_nil, List.getElem?_cons_zero, List.getElem?_cons_succ, List.set_cons_zero, List.set_cons_succ, List.replicate_succ, List.replicate_zero, List.cons_append, List.nil_append, Option.getD_some, Option.getD_none, Option.map_some, Option.map_none, Bool.and_true, Bool.true_and, Bool.and_false, Bool.false_and, Bool.and_self, Bool.not_true, Bool.not_false, Bool.true_eq_false, Bool.false_eq_true, Bool.not_eq_true', Bool.not_eq_false', if_true, if_false, ite_true, ite_false, true_and, and_true, false_and, and_false, true_implies, false_implies, implies_true, eq_self, decide_eq_true_eq, decide_eq_false_iff_not, decide_true, decide_false, bne_iff_ne, ne_eq, not_true_eq_false, not_false_eq_true, bne_eq_false_iff_eq, Option.some.injEq, Nat.zero_le, Nat.reduceAdd, Nat.reduceLeDiff, Nat.reduceLT, Nat.reduceBEq, Nat.reduceEqDiff, Int.reduceLE, Int.reduceLT, Int.reduceNeg, Int.reduceEq]
theorem all_ok {P : Program} {w : World} {K : PySem.W.Frag} {h : Heap} {mg : Str → Option Value} {f : Addr} (X : K.In h) (G : h.Ns mainGlobals mg) (hfa : mg ("law" : Str) = some (.ref f)) (c : SaysX hd K) :
    ∃ fd : FuncData, (∀ (s : Shared) (v : Value), BindsTo s fd ⟨[v], []⟩ [("script", v)]) ∧ ∀ base : Heap, K.In base → base.Ns mainGlobals mg → FnOk P w K mg base (L2.CX P w) 8 f fd ["script"] (spLaw K) := by
  obtain ⟨fd0, A0⟩ := c.defAt X G 0 (ps := ["script", "first", "most"]) rfl fun _ _ _ _ _ _ us hl => match us, hl with | [_, _, _], _ => rfl
  obtain ⟨fd1, A1⟩ := c.defAt X G 1 (ps := ["script"]) rfl fun _ _ _ _ _ _ us hl => match us, hl with | [_], _ => rfl
  obtain ⟨fd2, A2⟩ := c.defAt X G 2 (ps := ["pool", "many"]) rfl fun _ _ _ _ _ _ us hl => match us, hl with | [_, _], _ => rfl
  obtain ⟨fd3, A3⟩ := c.defAt X G 3 (ps := ["actual"]) rfl fun _ _ _ _ _ _ us hl => match us, hl with | [_], _ => rfl
  obtain ⟨fd4, A4⟩ := c.defAt X G 4 (ps := ["actual", "due"]) rfl fun _ _ _ _ _ _ us hl => match us, hl with | [_, _], _ => rfl
  obtain ⟨fd5, A5⟩ := c.defAt X G 5 (ps := ["actual", "due"]) rfl fun _ _ _ _ _ _ us hl => match us, hl with | [_, _], _ => rfl
  obtain ⟨fd6, A6⟩ := c.defAt X G 6 (ps := ["scores"]) rfl fun _ _ _ _ _ _ us hl => match us, hl with | [_], _ => rfl
  obtain ⟨fd7, A7⟩ := c.defAt X G 7 (ps := ["script"]) rfl fun _ _ _ _ _ _ us hl => match us, hl with | [_], _ => rfl
  have e := hfa.symm.trans A7.mg
  cases e
  refine ⟨fd7, fun s v => FunD.bindsA (ps := ["script"]) A7.fn (fun _ _ _ _ _ _ us hl => match us, hl with | [_], _ => rfl) s [v] rfl, fun base _ _ => ?_⟩
  have M0 : Mods P w K mg base (hd.tbl K) 0 [] cons excs := base_ok c X G (by decide +kernel) (fun p hp => by simp [hd] at hp)
  have M0' : Mods P w K mg base ((hd.tbl K).to hd.fx rfl) 0 [] cons excs := M0
  have M1 : Mods P w K mg base ((hd.tbl K).to fx_law_numbers rfl) 1 [("_law_numbers", 3)] cons excs := growP1 M0' A0 sc_law_numbers (n := fuel) re_law_numbers (notin_of (by decide +kernel)) rfl rfl rfl
  have M2 : Mods P w K mg base ((hd.tbl K).to fx_law_pool rfl) 2 [("_law_pool", 1), ("_law_numbers", 3)] cons excs := growP1 M1 A1 sc_law_pool (n := fuel) re_law_pool (notin_of (by decide +kernel)) rfl rfl rfl
  have M3 : Mods P w K mg base ((hd.tbl K).to fx_law_pick rfl) 3 [("_law_pick", 2), ("_law_pool", 1), ("_law_numbers", 3)] cons excs := growM1 M2 A2 sc_law_pick (n := fuel) re_law_pick (notin_of (by decide +kernel)) rfl rfl rfl
  have M4 : Mods P w K mg base ((hd.tbl K).to fx_law_is_integer rfl) 4 [("_law_is_integer", 1), ("_law_pick", 2), ("_law_pool", 1), ("_law_numbers", 3)] cons excs := growP1 M3 A3 sc_law_is_integer (n := fuel) re_law_is_integer (notin_of (by decide +kernel)) rfl rfl rfl
  have M5 : Mods P w K mg base ((hd.tbl K).to fx_law_int rfl) 5 [("_law_int", 2), ("_law_is_integer", 1), ("_law_pick", 2), ("_law_pool", 1), ("_law_numbers", 3)] cons excs := growP1 M4 A4 sc_law_int (n := fuel) re_law_int (notin_of (by decide +kernel)) rfl rfl rfl
  have M6 : Mods P w K mg base ((hd.tbl K).to fx_law_ints rfl) 6 [("_law_ints", 2), ("_law_int", 2), ("_law_is_integer", 1), ("_law_pick", 2), ("_law_pool", 1), ("_law_numbers", 3)] cons excs := growP1 M5 A5 sc_law_ints (n := fuel) re_law_ints (notin_of (by decide +kernel)) rfl rfl rfl
  have M7 : Mods P w K mg base ((hd.tbl K).to fx_compared rfl) 7 [("compared", 1), ("_law_ints", 2), ("_law_int", 2), ("_law_is_integer", 1), ("_law_pick", 2), ("_law_pool", 1), ("_law_numbers", 3)] cons excs := growP1 M6 A6 sc_compared (n := fuel) re_compared (notin_of (by decide +kernel)) rfl rfl rfl
  exact lawP1 M7 rfl A7 sc_law (n := fuel) re_law rfl law_true
abbrev R : PySem.W.OpenRow := PySem.W.OpenLaw.row PySem.Challenge.rw_finesse_k27_boards_compared
abbrev hk : PySem.W.Hook := hookX 5 hd
def ob (s : PySem.W.SharedT) : AlX := obsXG 5 hd (HandSHeadRun.getT s)
theorem ob_eq (s : PySem.W.SharedT) : ob s = hk.obs s.abs := obsXG_eq (HandSHeadRun.getT_eq s)
def loose : List Str := ["compared", "_law_is_integer", "_law_numbers", "_law_pool", "_law_pick", "_law_int", "_law_ints"]
theorem run (w : World) : HandSHeadRun.RunEq R (PySem.W.view R.prog [9]) hk ob 20000 loose w := by
  intro os
  kernel_rfl
end K27
open PySem PySem.W PySem.Calls PyProof.Rows
theorem PySem.Challenge.cw_finesse_k27_boards_compared_holds : PySem.Challenge.rw_finesse_k27_boards_compared.Holds := by
  w_on; o_law
  refine HandSHeadRun.head_any (r := OpenLaw.row PySem.Challenge.rw_finesse_k27_boards_compared) (q := view (OpenLaw.row PySem.Challenge.rw_finesse_k27_boards_compared).prog [9]) (H := K27.hk) (ob := K27.ob) (M := 20000) (loose := K27.loose) (d := HandSHeadRun.topDef (OpenLaw.row PySem.Challenge.rw_finesse_k27_boards_compared).prog 9) (kwd := []) K27.ob_eq
    (by kernel_rfl) (fun s => by kernel_rfl) K27.run (by kernel_rfl) (by kernel_rfl) (by kernel_rfl) (by rfl) (by first | assumption | decide +kernel) (by decide +kernel) ⟨rfl, rfl, rfl, rfl, rfl, by decide +kernel⟩ ?hw ?hc
  case hw => w_witness2
  case hc =>
    refine Fin.walk_fin (l := PySem.Challenge.rw_finesse_k27_boards_compared) (n := 63) (k := 8) (x := "script") rfl (by decide) (by decide) (by kernel_rfl) ⟨rfl, by decide, by decide⟩ ?F
    intro w mg fa h Y G hmg0
    obtain ⟨K, KX, c⟩ := Y
    have hmg : mg ("law" : PySem.Str) = some (.ref fa) := by
      have e : (HandSHeadRun.topDef (OpenLaw.row PySem.Challenge.rw_finesse_k27_boards_compared).prog 9).name = ("law" : PySem.Str) := by kernel_rfl
      rw [← e]
      exact hmg0
    obtain ⟨fd, hb, hF⟩ := K27.all_ok (P := (PySem.Challenge.rw_finesse_k27_boards_compared).prog) (w := w) KX G hmg c
    exact ⟨K, fd, KX, hb, hF⟩
