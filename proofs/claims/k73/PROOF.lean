import PyProof.Rows.All
import Wide.All
import OpenK.AllK
import Wide.FinOn
import HandS.ForMost
import HandS.Exc
import HandS.TryOnly
import HandS.ExcOwn
import HandS.WordsExc
import HandS.ExcCtx
import HandS.IsInst
import HandS.Walk
import HandS.TupAny
import HandS.StrMore
import KE.SortData
import KE.SortKeyHeap
import HandS.More
import HandS.HeadHook3
import HandS.ExcInit
import HandS.ExcField
import HandS.ExcIs
import HandS.HotCalls
import HandS.Text
import KE.KExcIs
import HandS.FStr
import HandS.ListItems
import HandS.WordsDict
import HandS.SetKeys
import HandS.Conv
import HandS.DictTup
import HandS.Deep
import KE.KDictList
import PySem.Challenge.RW_truemill_k73_keys_and_claims_of_all_word
set_option Elab.async false
set_option linter.all false
set_option autoImplicit false
set_option maxRecDepth 100000
set_option maxHeartbeats 2000000
namespace Vi
open PySem PySem.Spec PyProof.Rows L2

/-! ### data, cells, results -/
inductive D where
  | non | bl (b : Bool) | int (i : Int) | str (x : Str) | lst (xs : List D) | klst (xs : List D) | tup (xs : List D) | ref (i : Nat) | ty (n : String)
  deriving Inhabited
inductive Cel where
  | lst (xs : List D) | dct (kvs : List (Key × D)) | ins (c : Str) (fs : List (Str × D))
  deriving Inhabited
abbrev Hap := List Cel
abbrev Env := List (Option D)
inductive Rs (α : Type) where
  | ok (a : α) (h : Hap) | err (c : Str) (fs : Option (List (Str × D))) (h : Hap) | stuck
inductive RS where
  | nx (e : Env) (h : Hap) | rt (d : D) (h : Hap) | bk (e : Env) (h : Hap) | ct (e : Env) (h : Hap) | er (c : Str) (fs : Option (List (Str × D))) (e : Env) (h : Hap) | stuck
abbrev ME := Env → Hap → Rs D
abbrev MA := Env → Hap → Rs (List D)
abbrev MT := Env → Hap → Rs Bool
abbrev MS := Env → Hap → RS
abbrev MF := List D → Hap → Rs D
@[reducible] def Rs.bind {α β : Type} (r : Rs α) (f : α → Hap → Rs β) : Rs β := match r with
  | .ok a h => f a h
  | .err c fs h => .err c fs h
  | .stuck => .stuck
def ofO {α : Type} (o : Option α) (h : Hap) : Rs α := match o with
  | some d => .ok d h
  | none => .stuck

/-! ### how they stand in the heap -/
structure Wd where
  F : Hp
  ρ : List Addr
section
variable (K : PySem.W.Frag)
mutual
inductive VR (w : Wd) : V → D → Prop
  | non : VR w .non .non
  | bl (b : Bool) : VR w (.bl b) (.bl b)
  | int (i : Int) : VR w (.int i) (.int i)
  | str (x : Str) : VR w (.str x) (.str x)
  | ty (n : String) : VR w (.ty n) (.ty n)
  | lst {a : Addr} {vs : List V} {ds : List D} : w.F a = some (.lst vs) → VRs w vs ds → VR w (.ref a) (.lst ds)
  | klst {a : Addr} {vs : List V} {ds : List D} : SqL K w.F a vs → VRs w vs ds → VR w (.ref a) (.klst ds)
  | tup {a : Addr} {vs : List V} {ds : List D} : SqT K w.F a vs → VRs w vs ds → VR w (.ref a) (.tup ds)
  | ref {a : Addr} {i : Nat} : w.ρ[i]? = some a → VR w (.ref a) (.ref i)
inductive VRs (w : Wd) : List V → List D → Prop
  | nil : VRs w [] []
  | cons {v : V} {vs : List V} {d : D} {ds : List D} : VR w v d → VRs w vs ds → VRs w (v :: vs) (d :: ds)
end
def CRel (w : Wd) : HO → Cel → Prop
  | .lst vs, .lst ds => VRs K w vs ds
  | .dK kvs, .dct kds => kvs.map Prod.fst = kds.map Prod.fst ∧ VRs K w (kvs.map Prod.snd) (kds.map Prod.snd)
  | .ins C _ fs, .ins c fds => PySem.W.nsIn K PySem.mainGlobals c = some (some (.ref C)) ∧ fs.map Prod.fst = fds.map Prod.fst ∧ VRs K w (fs.map Prod.snd) (fds.map Prod.snd)
  | _, _ => False
structure Ok (w : Wd) (H : Hp) (h : Hap) : Prop where
  sub : ∀ a o, w.F a = some o → H a = some o
  len : w.ρ.length = h.length
  cel : ∀ (i : Nat) (a : Addr) (c : Cel), w.ρ[i]? = some a → h[i]? = some c → w.F a = none ∧ ∃ o, H a = some o ∧ CRel K w o c
  nd : w.ρ.Nodup
structure EnvR (w : Wd) (σ : L2.St) (env : Env) : Prop where
  len : σ.length = env.length
  get : ∀ (i : Nat) (d : D), env[i]? = some (some d) → ∃ v, σ[i]? = some (some v) ∧ VR K w v d
/-- the fields of an error's own dict -/
def XR (w : Wd) (H : Hp) (d : Option Addr) (fs : Option (List (Str × D))) : Prop := match d, fs with
  | none, none => True
  | some dd, some fds => ∃ fs', H dd = some (.xd fs') ∧ dd ∉ w.ρ ∧ fs'.map Prod.fst = fds.map Prod.fst ∧ VRs K w (fs'.map Prod.snd) (fds.map Prod.snd)
  | _, _ => False
end
structure Step (w : Wd) (H : Hp) (w' : Wd) (H' : Hp) : Prop where
  f : ∀ a o, w.F a = some o → w'.F a = some o
  r : ∃ t, w'.ρ = w.ρ ++ t
  keep : ∀ a o, a ∉ w.ρ → H a = some o → H' a = some o
  dom : ∀ a, H a ≠ none → H' a ≠ none
  new : ∀ a, a ∈ w'.ρ → a ∈ w.ρ ∨ H a = none
  nf : ∀ a o, w'.F a = some o → w.F a = some o ∨ H a = none

section
variable {K : PySem.W.Frag} {w w' w1 w2 : Wd} {H H' H1 H2 : Hp} {h h' : Hap} {σ : L2.St} {env : Env}
theorem Step.refl (w : Wd) (H : Hp) : Step w H w H := ⟨fun _ _ e => e, ⟨[], by simp⟩, fun _ _ _ e => e, fun _ e => e, fun _ m => .inl m, fun _ _ e => .inl e⟩
theorem Step.mem (s : Step w H w' H') {a : Addr} (m : a ∈ w.ρ) : a ∈ w'.ρ := by
  obtain ⟨t, e⟩ := s.r
  rw [e]
  exact List.mem_append_left _ m
theorem Step.trans (s : Step w H w1 H1) (t : Step w1 H1 w2 H2) : Step w H w2 H2 := by
  refine ⟨fun a o e => t.f a o (s.f a o e), ?_, fun a o n e => ?_, fun a e => t.dom a (s.dom a e), fun a m => ?_, fun a o e => ?_⟩
  · obtain ⟨x, e1⟩ := s.r
    obtain ⟨y, e2⟩ := t.r
    exact ⟨x ++ y, by rw [e2, e1, List.append_assoc]⟩
  · have q := s.keep a o n e
    refine t.keep a o (fun m => ?_) q
    rcases s.new a m with z | z
    · exact n z
    · rw [e] at z; cases z
  · rcases t.new a m with z | z
    · exact s.new a z
    · right
      cases q : H a with
      | none => rfl
      | some o => exact absurd z (s.dom a (by rw [q]; exact fun z => nomatch z))
  · rcases t.nf a o e with z | z
    · exact s.nf a o z
    · right
      cases q : H a with
      | none => rfl
      | some o => exact absurd z (s.dom a (by rw [q]; exact fun z => nomatch z))
theorem Rd.monoF {F F' : Hp} (f : ∀ a o, F a = some o → F' a = some o) {a : Addr} {u : HO} (r : Rd F a u) : Rd F' a u := by
  rcases r with r | ⟨o, r⟩
  · exact .inl (f _ _ r)
  · exact .inr ⟨o, f _ _ r⟩
theorem sqL_mono {F F' : Hp} (f : ∀ a o, F a = some o → F' a = some o) {a : Addr} {xs : List V} (r : SqL K F a xs) : SqL K F' a xs := by
  rcases r with r | r
  · exact .inl (Rd.monoF f r)
  · exact .inr r
theorem sqT_mono {F F' : Hp} (f : ∀ a o, F a = some o → F' a = some o) {a : Addr} {xs : List V} (r : SqT K F a xs) : SqT K F' a xs := by
  rcases r with r | r
  · exact .inl (Rd.monoF f r)
  · exact .inr r
mutual
theorem VR.mono' (f : ∀ a o, w.F a = some o → w'.F a = some o) (r : ∀ (i : Nat) (a : Addr), w.ρ[i]? = some a → w'.ρ[i]? = some a) : ∀ {v : V} {d : D}, VR K w v d → VR K w' v d
  | _, _, .non => .non
  | _, _, .bl b => .bl b
  | _, _, .int i => .int i
  | _, _, .str x => .str x
  | _, _, .ty n => .ty n
  | _, _, .lst e t => .lst (f _ _ e) (VRs.mono' f r t)
  | _, _, .klst e t => .klst (sqL_mono f e) (VRs.mono' f r t)
  | _, _, .tup e t => .tup (sqT_mono f e) (VRs.mono' f r t)
  | _, _, .ref e => .ref (r _ _ e)
theorem VRs.mono' (f : ∀ a o, w.F a = some o → w'.F a = some o) (r : ∀ (i : Nat) (a : Addr), w.ρ[i]? = some a → w'.ρ[i]? = some a) : ∀ {v : List V} {d : List D}, VRs K w v d → VRs K w' v d
  | _, _, .nil => .nil
  | _, _, .cons a b => .cons (VR.mono' f r a) (VRs.mono' f r b)
end
theorem Step.ix (s : Step w H w' H') {i : Nat} {a : Addr} (e : w.ρ[i]? = some a) : w'.ρ[i]? = some a := by
  obtain ⟨t, q⟩ := s.r
  rw [q]
  have hi : i < w.ρ.length := (List.getElem?_eq_some_iff.mp e).1
  rw [List.getElem?_append_left hi]
  exact e
theorem VR.mono (s : Step w H w' H') {v : V} {d : D} (r : VR K w v d) : VR K w' v d := r.mono' s.f fun _ _ e => s.ix e
theorem VRs.mono (s : Step w H w' H') {v : List V} {d : List D} (r : VRs K w v d) : VRs K w' v d := r.mono' s.f fun _ _ e => s.ix e
theorem EnvR.mono (s : Step w H w' H') (r : EnvR K w σ env) : EnvR K w' σ env := ⟨r.len, fun i d e => by
  obtain ⟨v, e1, e2⟩ := r.get i d e
  exact ⟨v, e1, e2.mono s⟩⟩
theorem CRel.mono' {w w' : Wd} (f : ∀ a o, w.F a = some o → w'.F a = some o) (r : ∀ (i : Nat) (a : Addr), w.ρ[i]? = some a → w'.ρ[i]? = some a) {o : HO} {c : Cel} (x : CRel K w o c) : CRel K w' o c := by
  cases o <;> cases c <;> first
    | exact VRs.mono' f r x
    | exact ⟨x.1, VRs.mono' f r x.2⟩
    | exact ⟨x.1, x.2.1, VRs.mono' f r x.2.2⟩
    | exact x
theorem VRs.length : ∀ {v : List V} {d : List D}, VRs K w v d → v.length = d.length
  | _, _, .nil => rfl
  | _, _, .cons _ b => by rw [List.length_cons, List.length_cons, VRs.length b]
theorem VRs.append : ∀ {v v' : List V} {d d' : List D}, VRs K w v d → VRs K w v' d' → VRs K w (v ++ v') (d ++ d')
  | _, _, _, _, .nil, t => t
  | _, _, _, _, .cons a b, t => .cons a (VRs.append b t)
theorem VRs.get : ∀ {v : List V} {d : List D} {i : Nat} {x : V}, VRs K w v d → v[i]? = some x → ∃ y, d[i]? = some y ∧ VR K w x y
  | _, _, i, _, .nil, e => by simp at e
  | _, _, 0, _, .cons a b, e => by
    simp at e
    subst e
    exact ⟨_, rfl, a⟩
  | _, _, i + 1, x, .cons a b, e => by
    obtain ⟨u, h1, h2⟩ := VRs.get (i := i) (x := x) b (by simpa using e)
    exact ⟨u, by simpa using h1, h2⟩
theorem VRs.get' : ∀ {v : List V} {d : List D} {i : Nat} {y : D}, VRs K w v d → d[i]? = some y → ∃ x, v[i]? = some x ∧ VR K w x y
  | _, _, i, _, .nil, e => by simp at e
  | _, _, 0, _, .cons a b, e => by
    simp at e
    subst e
    exact ⟨_, rfl, a⟩
  | _, _, i + 1, x, .cons a b, e => by
    obtain ⟨u, h1, h2⟩ := VRs.get' (i := i) (y := x) b (by simpa using e)
    exact ⟨u, by simpa using h1, h2⟩
theorem VRs.set {x : V} {y : D} (r : VR K w x y) : ∀ {v : List V} {d : List D} (i : Nat), VRs K w v d → VRs K w (v.set i x) (d.set i y)
  | _, _, _, .nil => .nil
  | _, _, 0, .cons _ t => .cons r t
  | _, _, i + 1, .cons q t => .cons q (VRs.set r i t)
theorem VRs.take : ∀ {v : List V} {d : List D} (n : Nat), VRs K w v d → VRs K w (v.take n) (d.take n)
  | _, _, 0, _ => .nil
  | _, _, _ + 1, .nil => .nil
  | _, _, n + 1, .cons r t => .cons r (VRs.take n t)
theorem VRs.drop : ∀ {v : List V} {d : List D} (n : Nat), VRs K w v d → VRs K w (v.drop n) (d.drop n)
  | _, _, 0, r => r
  | _, _, _ + 1, .nil => .nil
  | _, _, n + 1, .cons _ t => VRs.drop n t
theorem VRs.strs : ∀ {v : List V} {xs : List Str}, VRs K w v (xs.map D.str) → v = xs.map V.str
  | _, [], .nil => rfl
  | _, _ :: _, .cons (.str _) t => by rw [VRs.strs t]; rfl
theorem VRs.ints : ∀ {v : List V} {xs : List Int}, VRs K w v (xs.map D.int) → v = xs.map V.int
  | _, [], .nil => rfl
  | _, _ :: _, .cons (.int _) t => by rw [VRs.ints t]; rfl
theorem VRs.bls : ∀ {v : List V} {xs : List Bool}, VRs K w v (xs.map D.bl) → v = xs.map V.bl
  | _, [], .nil => rfl
  | _, _ :: _, .cons (.bl _) t => by rw [VRs.bls t]; rfl
theorem VRs.of_strs : ∀ {xs : List Str}, VRs K w (xs.map V.str) (xs.map D.str)
  | [] => .nil
  | x :: _ => .cons (.str x) VRs.of_strs
theorem VRs.of_ints : ∀ {xs : List Int}, VRs K w (xs.map V.int) (xs.map D.int)
  | [] => .nil
  | x :: _ => .cons (.int x) VRs.of_ints

/-- a new frozen object -/
theorem Ok.fresh (ok : Ok K w H h) {p : Addr} (hp : H p = none) : w.F p = none ∧ p ∉ w.ρ := by
  constructor
  · cases q : w.F p with
    | none => rfl
    | some o => rw [ok.sub p o q] at hp; cases hp
  · intro m
    obtain ⟨i, hi⟩ := List.getElem?_of_mem m
    have hl : i < w.ρ.length := (List.getElem?_eq_some_iff.mp hi).1
    rw [ok.len] at hl
    obtain ⟨_, o, e, _⟩ := ok.cel i p _ hi (List.getElem?_eq_getElem hl)
    rw [hp] at e
    cases e
theorem Ok.alloc (ok : Ok K w H h) {p : Addr} {o : HO} (hp : H p = none) : Ok K ⟨upd w.F p o, w.ρ⟩ (upd H p o) h ∧ Step w H ⟨upd w.F p o, w.ρ⟩ (upd H p o) := by
  obtain ⟨f0, r0⟩ := ok.fresh hp
  have fm : ∀ a u, w.F a = some u → upd w.F p o a = some u := fun a u e => by
    rw [upd_ne (ne_of_none e f0)]
    exact e
  refine ⟨⟨fun a u e => ?_, ok.len, fun i a c e1 e2 => ?_, ok.nd⟩, ⟨fm, ⟨[], by simp⟩, fun a u _ e => ?_, fun a e => ?_, fun a m => .inl m, fun a u e => ?_⟩⟩
  · have e : upd w.F p o a = some u := e
    by_cases q : a = p
    · subst q
      rw [upd_same] at e ⊢
      exact e
    · rw [upd_ne q] at e ⊢
      exact ok.sub a u e
  · obtain ⟨z, u, e3, e4⟩ := ok.cel i a c e1 e2
    have ne : a ≠ p := ne_of_none e3 hp
    exact ⟨by show upd w.F p o a = none; rw [upd_ne ne]; exact z, u, by rw [upd_ne ne]; exact e3, CRel.mono' (w := w) (w' := ⟨upd w.F p o, w.ρ⟩) fm (fun _ _ e => e) e4⟩
  · rw [upd_ne (ne_of_none e hp)]
    exact e
  · by_cases q : a = p
    · subst q
      exact absurd hp e
    · rw [upd_ne q]
      exact e
  · by_cases q : a = p
    · subst q
      exact .inr hp
    · have e' : upd w.F p o a = some u := e
      rw [upd_ne q] at e'
      exact .inl e'
/-- an object is tracked that was laid ahead of w's steps (a comprehension's list) -/
theorem Ok.freeze (ok : Ok K w H h) {p : Addr} {o : HO} (hp : H p = some o) (f0 : w.F p = none) (r0 : p ∉ w.ρ) : Ok K ⟨upd w.F p o, w.ρ⟩ H h := by
  have fm : ∀ a u, w.F a = some u → upd w.F p o a = some u := fun a u e => by
    rw [upd_ne (ne_of_none e f0)]
    exact e
  refine ⟨fun a u e => ?_, ok.len, fun i a c e1 e2 => ?_, ok.nd⟩
  · by_cases q : a = p
    · subst q
      have e' : upd w.F a o a = some u := e
      rw [upd_same] at e'
      rw [hp]
      exact e'
    · have e' : upd w.F p o a = some u := e
      rw [upd_ne q] at e'
      exact ok.sub a u e'
  · obtain ⟨z, u, e3, e4⟩ := ok.cel i a c e1 e2
    have ne : a ≠ p := fun q => r0 (by rw [← q]; exact List.mem_of_getElem? e1)
    exact ⟨by show upd w.F p o a = none; rw [upd_ne ne]; exact z, u, e3, CRel.mono' (w := w) (w' := ⟨upd w.F p o, w.ρ⟩) fm (fun _ _ e => e) e4⟩
/-- an object that is not tracked changes -/
theorem Ok.put (ok : Ok K w H h) {p : Addr} {o : HO} (f0 : w.F p = none) (r0 : p ∉ w.ρ) : Ok K w (upd H p o) h := by
  refine ⟨fun a u e => ?_, ok.len, fun i a c e1 e2 => ?_, ok.nd⟩
  · rw [upd_ne (ne_of_none e f0)]
    exact ok.sub a u e
  · obtain ⟨z, u, e3, e4⟩ := ok.cel i a c e1 e2
    have ne : a ≠ p := fun q => r0 (by rw [← q]; exact List.mem_of_getElem? e1)
    exact ⟨z, u, by rw [upd_ne ne]; exact e3, e4⟩
/-- a cell changes -/
theorem Ok.write (ok : Ok K w H h) {i : Nat} {p : Addr} {o : HO} {c : Cel} (hi : w.ρ[i]? = some p) (hc : CRel K w o c) : Ok K w (upd H p o) (h.set i c) ∧ Step w H w (upd H p o) := by
  have hl : i < w.ρ.length := (List.getElem?_eq_some_iff.mp hi).1
  have hl' : i < h.length := by rw [← ok.len]; exact hl
  obtain ⟨z0, u0, e0, _⟩ := ok.cel i p _ hi (List.getElem?_eq_getElem hl')
  have pm : p ∈ w.ρ := List.mem_of_getElem? hi
  refine ⟨⟨fun a u e => ?_, by rw [List.length_set]; exact ok.len, fun j a c' e1 e2 => ?_, ok.nd⟩, ⟨fun _ _ e => e, ⟨[], by simp⟩, fun a u n e => ?_, fun a e => ?_, fun a m => .inl m, fun a u e => .inl e⟩⟩
  · rw [upd_ne (ne_of_none e z0)]
    exact ok.sub a u e
  · by_cases q : i = j
    · subst q
      rw [hi] at e1
      cases e1
      rw [List.getElem?_set_self hl'] at e2
      cases e2
      exact ⟨z0, o, upd_same, hc⟩
    · rw [List.getElem?_set_ne q] at e2
      obtain ⟨z, u, e3, e4⟩ := ok.cel j a c' e1 e2
      have ne : a ≠ p := fun z => by
        subst z
        exact q ((List.getElem?_inj hl ok.nd).mp (by rw [hi, e1]))
      exact ⟨z, u, by rw [upd_ne ne]; exact e3, e4⟩
  · have ne : a ≠ p := fun z => n (by rw [z]; exact pm)
    rw [upd_ne ne]
    exact e
  · by_cases q : a = p
    · subst q
      rw [upd_same]
      exact fun z => nomatch z
    · rw [upd_ne q]
      exact e
/-- a new cell -/
theorem Ok.cell (ok : Ok K w H h) {p : Addr} {o : HO} {c : Cel} (hp : H p = none) (hc : CRel K w o c) :
    Ok K ⟨w.F, w.ρ ++ [p]⟩ (upd H p o) (h ++ [c]) ∧ Step w H ⟨w.F, w.ρ ++ [p]⟩ (upd H p o) := by
  obtain ⟨f0, r0⟩ := ok.fresh hp
  have rm : ∀ (i : Nat) (a : Addr), w.ρ[i]? = some a → (w.ρ ++ [p])[i]? = some a := fun i a e => by
    rw [List.getElem?_append_left (List.getElem?_eq_some_iff.mp e).1]
    exact e
  refine ⟨⟨fun a u e => ?_, by simp [ok.len], fun j a c' e1 e2 => ?_, ?_⟩, ⟨fun _ _ e => e, ⟨[p], rfl⟩, fun a u _ e => ?_, fun a e => ?_, fun a m => ?_, fun a u e => .inl e⟩⟩
  · rw [upd_ne (ne_of_none e f0)]
    exact ok.sub a u e
  · by_cases q : j < w.ρ.length
    · have e1' : (w.ρ ++ [p])[j]? = some a := e1
      rw [List.getElem?_append_left q] at e1'
      rw [List.getElem?_append_left (by rw [← ok.len]; exact q)] at e2
      obtain ⟨z, u, e3, e4⟩ := ok.cel j a c' e1' e2
      exact ⟨z, u, by rw [upd_ne (ne_of_none e3 hp)]; exact e3, CRel.mono' (w := w) (w' := ⟨w.F, w.ρ ++ [p]⟩) (fun _ _ e => e) rm e4⟩
    · have e1' : (w.ρ ++ [p])[j]? = some a := e1
      have hj : j < (w.ρ ++ [p]).length := (List.getElem?_eq_some_iff.mp e1').1
      rw [List.length_append, List.length_singleton] at hj
      have ej : j = w.ρ.length := by omega
      subst ej
      rw [List.getElem?_append_right (Nat.le_refl _), Nat.sub_self] at e1'
      rw [ok.len, List.getElem?_append_right (Nat.le_refl _), Nat.sub_self] at e2
      simp at e1' e2
      subst e1' e2
      exact ⟨f0, o, upd_same, CRel.mono' (w := w) (w' := ⟨w.F, w.ρ ++ [p]⟩) (fun _ _ e => e) rm hc⟩
  · show (w.ρ ++ [p]).Nodup
    rw [List.nodup_append]
    exact ⟨ok.nd, by simp, fun a m b m2 => by
      simp at m2
      subst m2
      exact fun z => r0 (by rw [← z]; exact m)⟩
  · rw [upd_ne (ne_of_none e hp)]
    exact e
  · by_cases q : a = p
    · subst q
      exact absurd hp e
    · rw [upd_ne q]
      exact e
  · have m' : a ∈ w.ρ ++ [p] := m
    rw [List.mem_append] at m'
    rcases m' with z | z
    · exact .inl z
    · simp at z
      subst z
      exact .inr hp
end
end Vi

set_option Elab.async false
set_option linter.all false
set_option autoImplicit false
set_option maxRecDepth 100000
set_option maxHeartbeats 2000000
namespace Vi
open PySem PySem.Spec PyProof.Rows L2
variable {gm : Str → Option Value}

/-! ### what a result asks of the wishes -/
def Post {α β : Type} (K : PySem.W.Frag) (gm : Str → Option Value) (VA : Wd → β → α → Prop) (w : Wd) (H : Hp) (r : Rs α) (Q : β → Hp → Prop) (E : XK) : Prop := match r with
  | .ok a h => ∀ v w' H', Step w H w' H' → Ok K w' H' h → VA w' v a → Q v H'
  | .err c fs h => ∀ cv d w' H', gm c = some cv → Step w H w' H' → Ok K w' H' h → XR K w' H' d fs → E cv d H'
  | .stuck => False
def PostS (K : PySem.W.Frag) (gm : Str → Option Value) (w : Wd) (H : Hp) (r : RS) (D : Ends) (W : WX) : Prop := match r with
  | .nx e h => ∀ σ w' H', Step w H w' H' → Ok K w' H' h → EnvR K w' σ e → D.nx σ H'
  | .bk e h => ∀ σ w' H', Step w H w' H' → Ok K w' H' h → EnvR K w' σ e → D.bk σ H'
  | .ct e h => ∀ σ w' H', Step w H w' H' → Ok K w' H' h → EnvR K w' σ e → D.ct σ H'
  | .rt d h => ∀ v w' H', Step w H w' H' → Ok K w' H' h → VR K w' v d → D.rt v H'
  | .er c fs e h => ∀ cv d σ w' H', gm c = some cv → Step w H w' H' → Ok K w' H' h → EnvR K w' σ e → XR K w' H' d fs → W cv d σ H'
  | .stuck => False
def VRb (_ : Wd) (v b : Bool) : Prop := v = b
def tE (K : PySem.W.Frag) (gm : Str → Option Value) (W : WX) (m : ME) : TE := fun σ H Q => ∃ w env h, Ok K w H h ∧ EnvR K w σ env ∧ Post K gm (VR K) w H (m env h) Q fun c d H' => W c d σ H'
def tA (K : PySem.W.Frag) (gm : Str → Option Value) (W : WX) (m : MA) : TA := fun σ H Q => ∃ w env h, Ok K w H h ∧ EnvR K w σ env ∧ Post K gm (VRs K) w H (m env h) Q fun c d H' => W c d σ H'
def tT (K : PySem.W.Frag) (gm : Str → Option Value) (W : WX) (m : MT) : TT := fun σ H Q => ∃ w env h, Ok K w H h ∧ EnvR K w σ env ∧ Post K gm VRb w H (m env h) Q fun c d H' => W c d σ H'
def tS (K : PySem.W.Frag) (gm : Str → Option Value) (W : WX) (m : MS) : TS := fun D σ H => ∃ w env h, Ok K w H h ∧ EnvR K w σ env ∧ PostS K gm w H (m env h) D W

theorem PE.imp {X : Cx} {e : Expr} {t t' : TE} (p : PE X e t) (i : ∀ σ H Q, t' σ H Q → t σ H Q) : PE X e t' := ⟨fun pins s σ H Q I h => p.run pins s σ H Q I (i _ _ _ h)⟩
theorem PT.imp {X : Cx} {e : Expr} {t t' : TT} (p : PT X e t) (i : ∀ σ H Q, t' σ H Q → t σ H Q) : PT X e t' := ⟨fun pins s σ H Q I h => p.run pins s σ H Q I (i _ _ _ h)⟩
theorem PW.imp {X : Cx} {e : Expr} {t t' : TT} (p : PW X e t) (i : ∀ σ H Q, t' σ H Q → t σ H Q) : PW X e t' := ⟨fun whole pins s σ H Q I h => p.run whole pins s σ H Q I (i _ _ _ h)⟩
theorem PA.imp {X : Cx} {e : List Expr} {t t' : TA} (p : PA X e t) (i : ∀ σ H Q, t' σ H Q → t σ H Q) : PA X e t' := ⟨fun pos pins s σ H Q I h => p.run pos pins s σ H Q I (i _ _ _ h)⟩
theorem PS.imp {X : Cx} {e : Stmt} {t t' : TS} (p : PS X e t) (i : ∀ D σ H, t' D σ H → t D σ H) : PS X e t' := ⟨fun pins s σ H D I h => p.run pins s σ H D I (i _ _ _ h)⟩
theorem PSs.imp {X : Cx} {e : List Stmt} {t t' : TS} (p : PSs X e t) (i : ∀ D σ H, t' D σ H → t D σ H) : PSs X e t' := ⟨fun pins s σ H D I h => p.run pins s σ H D I (i _ _ _ h)⟩

section
variable {K : PySem.W.Frag} {w w' : Wd} {H H' : Hp} {h h' : Hap} {σ : L2.St} {env : Env} {α β γ δ : Type}
theorem Post.step {VA : Wd → β → α → Prop} {r : Rs α} {Q : β → Hp → Prop} {E : XK} (s : Step w H w' H') (p : Post K gm VA w H r Q E) : Post K gm VA w' H' r Q E := by
  cases r with
  | ok a h => exact fun v w2 H2 s2 ok vr => p v w2 H2 (s.trans s2) ok vr
  | err c fs h => exact fun cv d w2 H2 hc s2 ok x => p cv d w2 H2 hc (s.trans s2) ok x
  | stuck => exact p
theorem PostS.step {r : RS} {D : Ends} {W : WX} (s : Step w H w' H') (p : PostS K gm w H r D W) : PostS K gm w' H' r D W := by
  cases r with
  | nx e h => exact fun v w2 H2 s2 ok vr => p v w2 H2 (s.trans s2) ok vr
  | bk e h => exact fun v w2 H2 s2 ok vr => p v w2 H2 (s.trans s2) ok vr
  | ct e h => exact fun v w2 H2 s2 ok vr => p v w2 H2 (s.trans s2) ok vr
  | rt e h => exact fun v w2 H2 s2 ok vr => p v w2 H2 (s.trans s2) ok vr
  | er c fs e h => exact fun cv d v w2 H2 hc s2 ok vr x => p cv d v w2 H2 hc (s.trans s2) ok vr x
  | stuck => exact p
/-- a part's result, then the rest -/
theorem Post.bind {VA : Wd → β → α → Prop} {VB : Wd → δ → γ → Prop} {r : Rs α} {f : α → Hap → Rs γ} {Q : δ → Hp → Prop} {Q1 : β → Hp → Prop} {E : XK} (p : Post K gm VB w H (r.bind f) Q E)
    (k : ∀ v a w' H' h', Step w H w' H' → Ok K w' H' h' → VA w' v a → Post K gm VB w' H' (f a h') Q E → Q1 v H') : Post K gm VA w H r Q1 E := by
  cases r with
  | ok a h => exact fun v w' H' s ok vr => k v a w' H' h s ok vr (Post.step s p)
  | err c fs h => exact p
  | stuck => exact p
/-- .. behind an expression a statement's flow -/
@[reducible] def RsS (r : Rs α) (env : Env) (f : α → Hap → RS) : RS := match r with
  | .ok a h => f a h
  | .err c fs h => .er c fs env h
  | .stuck => .stuck
theorem PostS.bind {VA : Wd → β → α → Prop} {r : Rs α} {f : α → Hap → RS} {D : Ends} {W : WX} {Q1 : β → Hp → Prop} (er : EnvR K w σ env) (p : PostS K gm w H (RsS r env f) D W)
    (k : ∀ v a w' H' h', Step w H w' H' → Ok K w' H' h' → VA w' v a → PostS K gm w' H' (f a h') D W → Q1 v H') : Post K gm VA w H r Q1 (fun c d H' => W c d σ H') := by
  cases r with
  | ok a h => exact fun v w' H' s ok vr => k v a w' H' h s ok vr (PostS.step s p)
  | err c fs h => exact fun cv d w' H' hc s ok x => p cv d σ w' H' hc s ok (er.mono s) x
  | stuck => exact p
theorem Post.ok {VA : Wd → β → α → Prop} {a : α} {v : β} {Q : β → Hp → Prop} {E : XK} (ok : Ok K w H h) (vr : VA w v a) (p : Post K gm VA w H (.ok a h) Q E) : Q v H := p v w H (Step.refl w H) ok vr
theorem Post.alloc {ds : D} {p : Addr} {o : HO} {Q : VK} {E : XK} (ok : Ok K w H h) (hp : H p = none) (vr : VR K ⟨upd w.F p o, w.ρ⟩ (.ref p) ds) (q : Post K gm (VR K) w H (.ok ds h) Q E) : Q (.ref p) (upd H p o) :=
  q _ _ _ (ok.alloc hp).2 (ok.alloc hp).1 vr
end

/-! ### names, constants -/
def mVar (i : Nat) : ME := fun env h => match env[i]? with
  | some (some d) => .ok d h
  | _ => .stuck
def mC (d : D) : ME := fun _ h => .ok d h
section
variable {X : Cx} {W : WX}
theorem e_var {i : Nat} {x : Str} {pos : Pos} (hN : X.N[i]? = some x) (hv : Vis X.env.scope x) (hd : (x == ("__debug__" : Str)) = false := by decide) (hcd : (x == ("__classdict__" : Str)) = false := by decide) : PE X (.Name x pos) (tE X.K X.mg W (mVar i)) :=
  PE.imp (pe_var hN hv hd hcd) fun σ H Q ⟨w, env, h, ok, er, p⟩ => by
    unfold mVar at p
    split at p
    · next d e =>
      obtain ⟨v, e1, vr⟩ := er.get i d e
      exact ⟨v, e1, p.ok ok vr⟩
    · exact p.elim
theorem e_c {e : Expr} {v : V} {d : D} (pe : PE X e (tC v)) (hv : ∀ w, VR X.K w v d) : PE X e (tE X.K X.mg W (mC d)) :=
  PE.imp pe fun σ H Q ⟨w, env, h, ok, er, p⟩ => p.ok ok (hv w)
theorem e_int {i : Int} {j : Nat} {pos : Pos} : PE X (.Constant (.int i) j pos) (tE X.K X.mg W (mC (.int i))) := e_c pe_int fun _ => .int i
theorem e_str {i : Str} {j : Nat} {pos : Pos} : PE X (.Constant (.str i) j pos) (tE X.K X.mg W (mC (.str i))) := e_c pe_str fun _ => .str i
theorem e_bl {i : Bool} {j : Nat} {pos : Pos} : PE X (.Constant (.bool i) j pos) (tE X.K X.mg W (mC (.bl i))) := e_c pe_bl fun _ => .bl i
theorem e_non {j : Nat} {pos : Pos} : PE X (.Constant .none j pos) (tE X.K X.mg W (mC .non)) := e_c pe_non fun _ => .non
/-- a constant of the module: an int, a text, a bool -/
theorem e_gint {x : Str} {i : Int} {pos : Pos} (hm : ∃ t, X.mg x = some (.int i t)) (hg : Gl X x) (hd : (x == ("__debug__" : Str)) = false := by decide) : PE X (.Name x pos) (tE X.K X.mg W (mC (.int i))) := by
  obtain ⟨t, hm⟩ := hm
  exact e_c (v := .int i) (pe_glob hg hm ⟨t, rfl⟩ hd) fun _ => .int i
theorem e_gstr {x : Str} {i : Str} {pos : Pos} (hm : ∃ t, X.mg x = some (.str i t)) (hg : Gl X x) (hd : (x == ("__debug__" : Str)) = false := by decide) : PE X (.Name x pos) (tE X.K X.mg W (mC (.str i))) := by
  obtain ⟨t, hm⟩ := hm
  exact e_c (v := .str i) (pe_glob hg hm ⟨t, rfl⟩ hd) fun _ => .str i
/-- a built-in class as a value -/
theorem e_ty {x : Str} {n : String} {pos : Pos} (hm : X.mg x = none) (hv : bootBuiltins x = some (.type n)) (hg : Gl X x) (hn : x ≠ "__name__" := by decide) (hd : (x == ("__debug__" : Str)) = false := by decide) : PE X (.Name x pos) (tE X.K X.mg W (mC (.ty n))) :=
  e_c (v := .ty n) (pe_bltn hg hm hv rfl hn hd) fun _ => .ty n

/-! ### operators -/
/-- a rule on values does what g does on data; it leaves the cells -/
def OpS (K : PySem.W.Frag) (r : R2) (g : D → D → Hap → Option D) : Prop := ∀ (w : Wd) (H : Hp) (h : Hap) (x y : V) (a b d : D) (Q : VK), Ok K w H h → VR K w x a → VR K w y b → g a b h = some d →
  (∀ v w' H', Step w H w' H' → Ok K w' H' h → VR K w' v d → Q v H') → r x y H Q
def UnS (K : PySem.W.Frag) (r : V → Hp → VK → Prop) (g : D → Hap → Option D) : Prop := ∀ (w : Wd) (H : Hp) (h : Hap) (x : V) (a d : D) (Q : VK), Ok K w H h → VR K w x a → g a h = some d →
  (∀ v w' H', Step w H w' H' → Ok K w' H' h → VR K w' v d → Q v H') → r x H Q
def rOr (r s : R2) : R2 := fun x y H Q => r x y H Q ∨ s x y H Q
theorem OpR.or {f : Value → Value → Sem Value} {r s : R2} (h1 : OpR X f r) (h2 : OpR X f s) : OpR X f (rOr r s) := fun pins t σ H x y v u Q I rx ry z => by
  rcases z with z | z
  · exact h1 pins t σ H x y v u Q I rx ry z
  · exact h2 pins t σ H x y v u Q I rx ry z
def mBin (g : D → D → Hap → Option D) (a b : ME) : ME := fun env h => (a env h).bind fun x h1 => (b env h1).bind fun y h2 => ofO (g x y h2) h2
def mUn (g : D → Hap → Option D) (a : ME) : ME := fun env h => (a env h).bind fun x h1 => ofO (g x h1) h1
theorem ofO_post {K : PySem.W.Frag} {α β : Type} {VA : Wd → β → α → Prop} {w : Wd} {H : Hp} {h : Hap} {o : Option α} {Q : β → Hp → Prop} {E : XK} (p : Post K gm VA w H (ofO o h) Q E) : ∃ d, o = some d ∧ ∀ v w' H', Step w H w' H' → Ok K w' H' h → VA w' v d → Q v H' := by
  cases o with
  | none => exact p.elim
  | some d => exact ⟨d, rfl, p⟩
theorem t_bin {K : PySem.W.Frag} {r : R2} {g : D → D → Hap → Option D} {a b : ME} (s : OpS K r g) : ∀ σ H Q, tE K gm W (mBin g a b) σ H Q → tOp r (tE K gm W a) (tE K gm W b) σ H Q := fun σ H Q ⟨w, env, h, ok, er, p⟩ =>
  ⟨w, env, h, ok, er, Post.bind p fun x da w1 H1 h1 s1 ok1 v1 p1 => ⟨w1, env, h1, ok1, er.mono s1, Post.bind p1 fun y db w2 H2 h2 s2 ok2 v2 p2 => by
    obtain ⟨d, e, q⟩ := ofO_post p2
    exact s w2 H2 h2 x y da db d Q ok2 (v1.mono s2) v2 e q⟩⟩
theorem t_un {K : PySem.W.Frag} {r : V → Hp → VK → Prop} {g : D → Hap → Option D} {a : ME} (s : UnS K r g) : ∀ σ H Q, tE K gm W (mUn g a) σ H Q → tUn r (tE K gm W a) σ H Q := fun σ H Q ⟨w, env, h, ok, er, p⟩ =>
  ⟨w, env, h, ok, er, Post.bind p fun x da w1 H1 h1 s1 ok1 v1 p1 => by
    obtain ⟨d, e, q⟩ := ofO_post p1
    exact s w1 H1 h1 x da d Q ok1 v1 e q⟩
theorem e_bin {op : Operator} {r : R2} {g : D → D → Hap → Option D} {a b : Expr} {ma mb : ME} {pos : Pos} (ho : OpR X (binaryOp op) r) (s : OpS X.K r g) (ha : PE X a (tE X.K X.mg W ma)) (hb : PE X b (tE X.K X.mg W mb)) : PE X (.BinOp a op b pos) (tE X.K X.mg W (mBin g ma mb)) := PE.imp (pe_op ho ha hb) (t_bin s)
theorem e_un {op : UnaryOp} {r : V → Hp → VK → Prop} {g : D → Hap → Option D} {a : Expr} {ma : ME} {pos : Pos} (ho : UnR X (unaryOp op) r) (s : UnS X.K r g) (ha : PE X a (tE X.K X.mg W ma)) : PE X (.UnaryOp op a pos) (tE X.K X.mg W (mUn g ma)) := PE.imp (pe_un ho ha) (t_un s)
theorem e_cmp {op : CmpOp} {r : R2} {g : D → D → Hap → Option D} {a b : Expr} {ma mb : ME} {pos : Pos} (ho : OpR X (compareOp op) r) (s : OpS X.K r g) (ha : PE X a (tE X.K X.mg W ma)) (hb : PE X b (tE X.K X.mg W mb)) (hm : behindInMarks op b = false) : PE X (.Compare a [op] [b] pos) (tE X.K X.mg W (mBin g ma mb)) := PE.imp (pe_cmpR ho ha hb hm) (t_bin s)

/-! ### tests -/
def oB : D → Option Bool
  | .bl b => some b
  | _ => none
def mTst (a : ME) : MT := fun env h => (a env h).bind fun x h1 => ofO (oB x) h1
theorem oB_some {d : D} {b : Bool} (e : oB d = some b) : d = .bl b := by
  cases d <;> simp [oB] at e
  rw [e]
theorem t_tst {K : PySem.W.Frag} {a : ME} {te : TE} (ht : ∀ σ H Q, tE K gm W a σ H Q → te σ H Q) : ∀ σ H Q, tT K gm W (mTst a) σ H Q → tTest te σ H Q := fun σ H Q ⟨w, env, h, ok, er, p⟩ =>
  ht _ _ _ ⟨w, env, h, ok, er, Post.bind p fun x da w1 H1 h1 s1 ok1 v1 p1 => by
    obtain ⟨b, e, q⟩ := ofO_post p1
    have e2 := oB_some e
    subst e2
    cases v1
    exact ⟨b, rfl, q b w1 H1 (Step.refl _ _) ok1 rfl⟩⟩
theorem c_cmp {op : CmpOp} {r : R2} {g : D → D → Hap → Option D} {a b : Expr} {ma mb : ME} {pos : Pos} (ho : OpR X (compareOp op) r) (s : OpS X.K r g) (ha : PE X a (tE X.K X.mg W ma)) (hb : PE X b (tE X.K X.mg W mb)) (hm : behindInMarks op b = false) : PT X (.Compare a [op] [b] pos) (tT X.K X.mg W (mTst (mBin g ma mb))) := PT.imp (pt_cmpR ho ha hb hm) (t_tst (t_bin s))
/-- a value that is True or False -/
theorem c_val {e : Expr} {m : ME} (hp : PE X e (tE X.K X.mg W m)) (he : ∀ whole, isTrue e X.env whole = (do let v ← whole; standAt e.pos; holding [v] (truthy v)) := by intro _; rfl) : PT X e (tT X.K X.mg W (mTst m)) := PT.imp (pt_val hp he) (t_tst fun _ _ _ h => h)
def mNotT (a : MT) : MT := fun env h => (a env h).bind fun b h1 => .ok (!b) h1
def mAndT (a b : MT) : MT := fun env h => (a env h).bind fun x h1 => if x = true then b env h1 else .ok false h1
def mOrT (a b : MT) : MT := fun env h => (a env h).bind fun x h1 => if x = true then .ok true h1 else b env h1
theorem c_not {a : Expr} {ma : MT} {pos : Pos} (ha : PT X a (tT X.K X.mg W ma)) : PT X (.UnaryOp .Not a pos) (tT X.K X.mg W (mNotT ma)) := PT.imp (pt_not ha) fun σ H Q ⟨w, env, h, ok, er, p⟩ =>
  ⟨w, env, h, ok, er, Post.bind p fun x da w1 H1 h1 s1 ok1 v1 p1 => by
    cases v1
    exact p1 _ w1 H1 (Step.refl _ _) ok1 rfl⟩
theorem w_and {a b : Expr} {rest : List Expr} {ma mb : MT} {pos : Pos} (ha : PT X a (tT X.K X.mg W ma)) (hb : PW X (.BoolOp .And (b :: rest) pos) (tT X.K X.mg W mb)) : PW X (.BoolOp .And (a :: b :: rest) pos) (tT X.K X.mg W (mAndT ma mb)) := PW.imp (pw_and ha hb) fun σ H Q ⟨w, env, h, ok, er, p⟩ =>
  ⟨w, env, h, ok, er, Post.bind p fun x da w1 H1 h1 s1 ok1 v1 p1 => by
    cases v1
    cases x with
    | true => exact ⟨w1, env, h1, ok1, er.mono s1, p1⟩
    | false => exact p1 _ w1 H1 (Step.refl _ _) ok1 rfl⟩
theorem w_and1 {a : Expr} {ma : MT} {pos : Pos} (ha : PT X a (tT X.K X.mg W ma)) : PW X (.BoolOp .And [a] pos) (tT X.K X.mg W ma) := pw_and1 ha
theorem w_or {a b : Expr} {rest : List Expr} {ma mb : MT} {pos : Pos} (ha : PT X a (tT X.K X.mg W ma)) (hb : PW X (.BoolOp .Or (b :: rest) pos) (tT X.K X.mg W mb)) : PW X (.BoolOp .Or (a :: b :: rest) pos) (tT X.K X.mg W (mOrT ma mb)) := PW.imp (pw_or ha hb) fun σ H Q ⟨w, env, h, ok, er, p⟩ =>
  ⟨w, env, h, ok, er, Post.bind p fun x da w1 H1 h1 s1 ok1 v1 p1 => by
    cases v1
    cases x with
    | false => exact ⟨w1, env, h1, ok1, er.mono s1, p1⟩
    | true => exact p1 _ w1 H1 (Step.refl _ _) ok1 rfl⟩
theorem w_or1 {a : Expr} {ma : MT} {pos : Pos} (ha : PT X a (tT X.K X.mg W ma)) : PW X (.BoolOp .Or [a] pos) (tT X.K X.mg W ma) := pw_or1 ha
theorem c_w {a : Expr} {ma : MT} (h : PW X a (tT X.K X.mg W ma)) : PT X a (tT X.K X.mg W ma) := PW.pt h
/-- and, or, not as values (all but the last are True or False) -/
def mAnd (a b : ME) : ME := fun env h => (a env h).bind fun x h1 => match x with
  | .bl true => b env h1
  | .bl false => .ok (.bl false) h1
  | _ => .stuck
def mOr (a b : ME) : ME := fun env h => (a env h).bind fun x h1 => match x with
  | .bl true => .ok (.bl true) h1
  | .bl false => b env h1
  | _ => .stuck
theorem e_and {a b : Expr} {rest : List Expr} {ma mb : ME} {pos : Pos} (ha : PE X a (tE X.K X.mg W ma)) (hb : PE X (.BoolOp .And (b :: rest) pos) (tE X.K X.mg W mb)) : PE X (.BoolOp .And (a :: b :: rest) pos) (tE X.K X.mg W (mAnd ma mb)) := PE.imp (pe_and ha hb) fun σ H Q ⟨w, env, h, ok, er, p⟩ =>
  ⟨w, env, h, ok, er, Post.bind p fun x da w1 H1 h1 s1 ok1 v1 p1 => by
    cases v1 <;> try exact p1.elim
    next b =>
    refine ⟨b, rfl, ?_⟩
    cases b with
    | true => exact ⟨w1, env, h1, ok1, er.mono s1, p1⟩
    | false => exact p1.ok ok1 (.bl false)⟩
theorem e_or {a b : Expr} {rest : List Expr} {ma mb : ME} {pos : Pos} (ha : PE X a (tE X.K X.mg W ma)) (hb : PE X (.BoolOp .Or (b :: rest) pos) (tE X.K X.mg W mb)) : PE X (.BoolOp .Or (a :: b :: rest) pos) (tE X.K X.mg W (mOr ma mb)) := PE.imp (pe_or ha hb) fun σ H Q ⟨w, env, h, ok, er, p⟩ =>
  ⟨w, env, h, ok, er, Post.bind p fun x da w1 H1 h1 s1 ok1 v1 p1 => by
    cases v1 <;> try exact p1.elim
    next b =>
    refine ⟨b, rfl, ?_⟩
    cases b with
    | false => exact ⟨w1, env, h1, ok1, er.mono s1, p1⟩
    | true => exact p1.ok ok1 (.bl true)⟩
theorem e_one {op : BoolOp} {a : Expr} {ma : ME} {pos : Pos} (ha : PE X a (tE X.K X.mg W ma)) : PE X (.BoolOp op [a] pos) (tE X.K X.mg W ma) := pe_one ha
def mNot (a : ME) : ME := fun env h => (a env h).bind fun x h1 => match x with
  | .bl b => .ok (.bl (!b)) h1
  | _ => .stuck
theorem e_not {a : Expr} {ma : ME} {pos : Pos} (ha : PE X a (tE X.K X.mg W ma)) : PE X (.UnaryOp .Not a pos) (tE X.K X.mg W (mNot ma)) := PE.imp (pe_not ha) fun σ H Q ⟨w, env, h, ok, er, p⟩ =>
  ⟨w, env, h, ok, er, Post.bind p fun x da w1 H1 h1 s1 ok1 v1 p1 => by
    cases v1 <;> try exact p1.elim
    next b => exact ⟨b, rfl, p1.ok ok1 (.bl _)⟩⟩
def mIf (t : MT) (a b : ME) : ME := fun env h => (t env h).bind fun x h1 => if x = true then a env h1 else b env h1
theorem e_if {t a b : Expr} {mt : MT} {ma mb : ME} {pos : Pos} (ht : PT X t (tT X.K X.mg W mt)) (ha : PE X a (tE X.K X.mg W ma)) (hb : PE X b (tE X.K X.mg W mb)) : PE X (.IfExp t a b pos) (tE X.K X.mg W (mIf mt ma mb)) := PE.imp (pe_ifExp ht ha hb) fun σ H Q ⟨w, env, h, ok, er, p⟩ =>
  ⟨w, env, h, ok, er, Post.bind p fun x da w1 H1 h1 s1 ok1 v1 p1 => by
    cases v1
    cases x with
    | false => exact ⟨w1, env, h1, ok1, er.mono s1, p1⟩
    | true => exact ⟨w1, env, h1, ok1, er.mono s1, p1⟩⟩

/-! ### argument lists, displays -/
def mNil : MA := fun _ h => .ok [] h
def mCons (a : ME) (r : MA) : MA := fun env h => (a env h).bind fun x h1 => (r env h1).bind fun xs h2 => .ok (x :: xs) h2
theorem a_nil : PA X [] (tA X.K X.mg W mNil) := PA.imp pa_nil fun σ H Q ⟨w, env, h, ok, er, p⟩ => p.ok ok .nil
theorem a_cons {e : Expr} {es : List Expr} {m : ME} {r : MA} (ha : PE X e (tE X.K X.mg W m)) (hr : PA X es (tA X.K X.mg W r)) (hs : starEach (e :: es) X.env = (false, eval e X.env) :: starEach es X.env := by rfl) : PA X (e :: es) (tA X.K X.mg W (mCons m r)) :=
  PA.imp (pa_cons ha hr hs) fun σ H Q ⟨w, env, h, ok, er, p⟩ => ⟨w, env, h, ok, er, Post.bind p fun x da w1 H1 h1 s1 ok1 v1 p1 => ⟨w1, env, h1, ok1, er.mono s1, Post.bind p1 fun xs ds w2 H2 h2 s2 ok2 v2 p2 => p2.ok ok2 (.cons (v1.mono s2) v2)⟩⟩
def mTup (a : MA) : ME := fun env h => (a env h).bind fun xs h1 => if xs.length ≤ sizeLine then .ok (.tup xs) h1 else .stuck
def mLst (a : MA) : ME := fun env h => (a env h).bind fun xs h1 => if xs.length ≤ sizeLine then .ok (.lst xs) h1 else .stuck
/-- a list that will change -/
def mCel (a : MA) : ME := fun env h => (a env h).bind fun xs h1 => if xs.length ≤ sizeLine then .ok (.ref h1.length) (h1 ++ [.lst xs]) else .stuck
section
variable {K : PySem.W.Frag} {w : Wd} {H : Hp} {h : Hap} {p : Addr} {vs : List V} {ds : List D}
theorem VRs.alloc (ok : Ok K w H h) {o : HO} (hp : H p = none) (r : VRs K w vs ds) : VRs K ⟨upd w.F p o, w.ρ⟩ vs ds := r.mono (ok.alloc hp).2
theorem vr_lst (ok : Ok K w H h) (hp : H p = none) (r : VRs K w vs ds) : VR K ⟨upd w.F p (.lst vs), w.ρ⟩ (.ref p) (.lst ds) := .lst upd_same (r.alloc ok hp)
theorem vr_tup (ok : Ok K w H h) (hp : H p = none) (r : VRs K w vs ds) : VR K ⟨upd w.F p (.tup vs), w.ρ⟩ (.ref p) (.tup ds) := .tup (.inl (.inl upd_same)) (r.alloc ok hp)
end
theorem e_tup {es : List Expr} {m : MA} {k : Nat} {pos : Pos} (ha : PA X es (tA X.K X.mg W m)) : PE X (.Tuple es k pos) (tE X.K X.mg W (mTup m)) := PE.imp (pe_tup ha) fun σ H Q ⟨w, env, h, ok, er, p⟩ =>
  ⟨w, env, h, ok, er, Post.bind p fun x da w1 H1 h1 s1 ok1 v1 p1 => by
    by_cases hl : da.length ≤ sizeLine
    · rw [if_pos hl] at p1
      exact ⟨by rw [v1.length]; exact hl, fun a ha => p1.alloc ok1 ha (vr_tup ok1 ha v1)⟩
    · rw [if_neg hl] at p1
      exact p1.elim⟩
theorem e_lst {es : List Expr} {m : MA} {pos : Pos} (ha : PA X es (tA X.K X.mg W m)) : PE X (.List es pos) (tE X.K X.mg W (mLst m)) := PE.imp (pe_lst ha) fun σ H Q ⟨w, env, h, ok, er, p⟩ =>
  ⟨w, env, h, ok, er, Post.bind p fun x da w1 H1 h1 s1 ok1 v1 p1 => by
    by_cases hl : da.length ≤ sizeLine
    · rw [if_pos hl] at p1
      exact ⟨by rw [v1.length]; exact hl, fun a ha => p1.alloc ok1 ha (vr_lst ok1 ha v1)⟩
    · rw [if_neg hl] at p1
      exact p1.elim⟩
theorem e_cel {es : List Expr} {m : MA} {pos : Pos} (ha : PA X es (tA X.K X.mg W m)) : PE X (.List es pos) (tE X.K X.mg W (mCel m)) := PE.imp (pe_lst ha) fun σ H Q ⟨w, env, h, ok, er, p⟩ =>
  ⟨w, env, h, ok, er, Post.bind p fun x da w1 H1 h1 s1 ok1 v1 p1 => by
    by_cases hl : da.length ≤ sizeLine
    · rw [if_pos hl] at p1
      refine ⟨by rw [v1.length]; exact hl, fun a ha => ?_⟩
      have q := ok1.cell (c := .lst da) (o := .lst x) ha v1
      refine p1 _ _ _ q.2 q.1 (.ref ?_)
      show (w1.ρ ++ [a])[h1.length]? = some a
      rw [← ok1.len, List.getElem?_append_right (Nat.le_refl _), Nat.sub_self]
      rfl
    · rw [if_neg hl] at p1
      exact p1.elim⟩
end
end Vi

set_option Elab.async false
set_option linter.all false
set_option autoImplicit false
set_option maxRecDepth 100000
set_option maxHeartbeats 2000000
namespace Vi
open PySem PySem.Spec PyProof.Rows L2
variable {gm : Str → Option Value}
open scoped Classical
noncomputable section

/-! ### readers of data -/
def ch (c : Nat) : Str := ⟨#[c]⟩
def getL (d : D) (h : Hap) : Option (List D) := match d with
  | .lst xs => some xs
  | .klst xs => some xs
  | .ref i => match h[i]? with
    | some (.lst xs) => some xs
    | _ => none
  | _ => none
def getT (d : D) : Option (List D) := match d with
  | .tup xs => some xs
  | _ => none
/-- list or tuple -/
def getQ (d : D) (h : Hap) : Option (List D) := match d with
  | .tup xs => some xs
  | d => getL d h
/-- a list that stands for itself in the heap -/
def getM (d : D) (h : Hap) : Option (List D) := match d with
  | .lst xs => some xs
  | .ref i => match h[i]? with
    | some (.lst xs) => some xs
    | _ => none
  | _ => none
/-- what a for walks: items of a list, a tuple, the signs of a text -/
def seqOf (d : D) (h : Hap) : Option (List D) := match d with
  | .str z => some (z.cps.toList.map fun c => .str (ch c))
  | .tup xs => some xs
  | d => getL d h
section
variable {K : PySem.W.Frag} {w : Wd} {H : Hp} {h : Hap} {x : V} {d : D} {ds : List D}
theorem getM_ok (ok : Ok K w H h) (r : VR K w x d) (e : getM d h = some ds) : ∃ a vs, x = .ref a ∧ H a = some (.lst vs) ∧ VRs K w vs ds := by
  cases r <;> simp [getM] at e
  case lst a vs ds' e1 e2 =>
    subst e
    exact ⟨a, vs, rfl, ok.sub _ _ e1, e2⟩
  case ref a i e1 =>
    split at e
    · next xs e2 =>
      cases e
      obtain ⟨_, o, e3, e4⟩ := ok.cel i a _ e1 e2
      cases o <;> simp [CRel] at e4
      next vs => exact ⟨a, vs, rfl, e3, e4⟩
    · cases e
theorem getL_ok (ok : Ok K w H h) (r : VR K w x d) (e : getL d h = some ds) : ∃ a vs, x = .ref a ∧ SqL K H a vs ∧ VRs K w vs ds := by
  cases r <;> simp [getL] at e
  case lst a vs ds' e1 e2 =>
    subst e
    exact ⟨a, vs, rfl, .inl (.inl (ok.sub _ _ e1)), e2⟩
  case klst a vs ds' e1 e2 =>
    subst e
    exact ⟨a, vs, rfl, sqL_mono ok.sub e1, e2⟩
  case ref a i e1 =>
    split at e
    · next xs e2 =>
      cases e
      obtain ⟨_, o, e3, e4⟩ := ok.cel i a _ e1 e2
      cases o <;> simp [CRel] at e4
      next vs => exact ⟨a, vs, rfl, .inl (.inl e3), e4⟩
    · cases e
theorem getT_ok (ok : Ok K w H h) (r : VR K w x d) (e : getT d = some ds) : ∃ a vs, x = .ref a ∧ SqT K H a vs ∧ VRs K w vs ds := by
  cases r <;> simp [getT] at e
  case tup a vs ds' e1 e2 =>
    subst e
    exact ⟨a, vs, rfl, sqT_mono ok.sub e1, e2⟩
theorem getQ_ok (ok : Ok K w H h) (r : VR K w x d) (e : getQ d h = some ds) : ∃ a vs, x = .ref a ∧ (SqL K H a vs ∨ SqT K H a vs) ∧ VRs K w vs ds := by
  unfold getQ at e
  split at e
  · cases e
    obtain ⟨a, vs, q1, q2, q3⟩ := getT_ok ok r rfl
    exact ⟨a, vs, q1, .inr q2, q3⟩
  · obtain ⟨a, vs, q1, q2, q3⟩ := getL_ok ok r e
    exact ⟨a, vs, q1, .inl q2, q3⟩
end

/-! ### arithmetic -/
/-- + -/
def dAdd : D → D → Hap → Option D := fun a b h => match a, b with
  | .int i, .int j => some (.int (i + j))
  | .str x, .str y => if x.length + y.length ≤ sizeLine then some (.str (x ++ y)) else none
  | .tup xs, .tup ys => if xs.length + ys.length ≤ sizeLine then some (.tup (xs ++ ys)) else none
  | a, b => match getM a h, getM b h with
    | some xs, some ys => if xs.length + ys.length ≤ sizeLine then some (.lst (xs ++ ys)) else none
    | _, _ => none
def rAddS' : R2 := fun x y H Q => ∃ i j, x = .str i ∧ y = .str j ∧ i.length + j.length ≤ sizeLine ∧ Q (.str (i ++ j)) H
def rAdd' (K : PySem.W.Frag) : R2 := rOr (rI0 fun i j => .int (i + j)) (rOr rAddS' (rOr rCat (rCatA K)))
theorem o_add {X : Cx} : OpR X (binaryOp .Add) (rAdd' X.K) := OpR.or op_add (OpR.or op_add_str (OpR.or op_cat op_catA))
theorem s_add {K : PySem.W.Frag} : OpS K (rAdd' K) dAdd := by
  intro w H h x y a b d Q ok vx vy e q
  have cat : (match getM a h, getM b h with
    | some xs, some ys => if xs.length + ys.length ≤ sizeLine then some (D.lst (xs ++ ys)) else none
    | _, _ => none) = some d → rAdd' K x y H Q := by
    intro e
    split at e
    · next xs ys e1 e2 =>
      obtain ⟨p1, v1, rfl, h1, r1⟩ := getM_ok ok vx e1
      obtain ⟨p2, v2, rfl, h2, r2⟩ := getM_ok ok vy e2
      split at e
      · next hl =>
        cases e
        refine .inr (.inr (.inl ⟨p1, p2, v1, v2, rfl, rfl, h1, h2, by rw [r1.length, r2.length]; exact hl, fun p hp => ?_⟩))
        exact q _ _ _ (ok.alloc hp).2 (ok.alloc hp).1 (vr_lst ok hp (r1.append r2))
      · cases e
    · cases e
  unfold dAdd at e
  split at e
  · cases e
    cases vx
    cases vy
    exact .inl ⟨_, _, rfl, rfl, q _ _ _ (Step.refl _ _) ok (.int _)⟩
  · split at e
    · next hl =>
      cases e
      cases vx
      cases vy
      exact .inr (.inl ⟨_, _, rfl, rfl, hl, q _ _ _ (Step.refl _ _) ok (.str _)⟩)
    · cases e
  · split at e
    · next xs ys hl =>
      cases e
      obtain ⟨p1, v1, rfl, h1, r1⟩ := getT_ok ok vx rfl
      obtain ⟨p2, v2, rfl, h2, r2⟩ := getT_ok ok vy rfl
      refine .inr (.inr (.inr ⟨p1, p2, v1, v2, rfl, rfl, h1, h2, by rw [r1.length, r2.length]; exact hl, fun z => ?_, fun z z2 => ?_, fun z z2 p hp => ?_⟩))
      · subst z
        have : xs = [] := by cases r1; rfl
        subst this
        exact q _ _ _ (Step.refl _ _) ok vy
      · subst z2
        have : ys = [] := by cases r2; rfl
        subst this
        rw [List.append_nil] at q
        exact q _ _ _ (Step.refl _ _) ok vx
      · exact q _ _ _ (ok.alloc hp).2 (ok.alloc hp).1 (vr_tup ok hp (r1.append r2))
    · cases e
  · exact cat e
def dSub : D → D → Hap → Option D := fun a b _ => match a, b with
  | .int i, .int j => some (.int (i - j))
  | _, _ => none
theorem s_I0 {K : PySem.W.Frag} {g : Int → Int → V} {f : D → D → Hap → Option D} (hf : ∀ a b h d, f a b h = some d → ∃ i j, a = .int i ∧ b = .int j ∧ ∀ w, VR K w (g i j) d) : OpS K (rI0 g) f := by
  intro w H h x y a b d Q ok vx vy e q
  obtain ⟨i, j, rfl, rfl, e'⟩ := hf a b h d e
  cases vx
  cases vy
  exact ⟨i, j, rfl, rfl, q _ _ _ (Step.refl _ _) ok (e' w)⟩
theorem s_I {K : PySem.W.Frag} {C : Int → Int → Prop} {g : Int → Int → V} {f : D → D → Hap → Option D} (hf : ∀ a b h d, f a b h = some d → ∃ i j, a = .int i ∧ b = .int j ∧ C i j ∧ ∀ w, VR K w (g i j) d) : OpS K (rI C g) f := by
  intro w H h x y a b d Q ok vx vy e q
  obtain ⟨i, j, rfl, rfl, c, e'⟩ := hf a b h d e
  cases vx
  cases vy
  exact ⟨i, j, rfl, rfl, c, q _ _ _ (Step.refl _ _) ok (e' w)⟩
theorem s_sub {K : PySem.W.Frag} : OpS K (rI0 fun i j => .int (i - j)) dSub := s_I0 fun a b h d e => by
  unfold dSub at e
  split at e <;> cases e
  exact ⟨_, _, rfl, rfl, fun _ => .int _⟩
def dMod : D → D → Hap → Option D := fun a b _ => match a, b with
  | .int i, .int j => if j ≠ 0 then some (.int (i.fmod j)) else none
  | _, _ => none
theorem s_mod {K : PySem.W.Frag} : OpS K (rI (fun _ j => j ≠ 0) fun i j => .int (i.fmod j)) dMod := s_I fun a b h d e => by
  unfold dMod at e
  split at e
  · split at e
    · next c => cases e; exact ⟨_, _, rfl, rfl, c, fun _ => .int _⟩
    · cases e
  · cases e
def dDiv : D → D → Hap → Option D := fun a b _ => match a, b with
  | .int i, .int j => if CDivN i j then some (.int (i.fdiv j)) else none
  | _, _ => none
theorem s_div {K : PySem.W.Frag} : OpS K (rI CDivN fun i j => .int (i.fdiv j)) dDiv := s_I fun a b h d e => by
  unfold dDiv at e
  split at e
  · split at e
    · next c => cases e; exact ⟨_, _, rfl, rfl, c, fun _ => .int _⟩
    · cases e
  · cases e
def dPow : D → D → Hap → Option D := fun a b _ => match a, b with
  | .int i, .int j => if CPow i j then some (.int (i ^ j.toNat)) else none
  | _, _ => none
theorem s_pow {K : PySem.W.Frag} : OpS K (rI CPow fun i j => .int (i ^ j.toNat)) dPow := s_I fun a b h d e => by
  unfold dPow at e
  split at e
  · split at e
    · next c => cases e; exact ⟨_, _, rfl, rfl, c, fun _ => .int _⟩
    · cases e
  · cases e
/-- * : ints (one of them small), a text by an int -/
def dMul : D → D → Hap → Option D := fun a b _ => match a, b with
  | .int i, .int j => if CMul i j then some (.int (i * j)) else none
  | .str z, .int n => if 0 ≤ n ∧ n < 2 ^ 62 ∧ z.length * n.toNat ≤ sizeLine then some (.str ⟨(List.replicate n.toNat z.cps.toList).flatten.toArray⟩) else none
  | _, _ => none
def rMulS : R2 := fun x y H Q => ∃ z n, x = .str z ∧ y = .int n ∧ (0 ≤ n ∧ n < 2 ^ 62 ∧ z.length * n.toNat ≤ sizeLine) ∧ Q (.str ⟨(List.replicate n.toNat z.cps.toList).flatten.toArray⟩) H
theorem foldl_app {α : Type} : ∀ (n : Nat) (b : Array α) (acc : Array α), ((List.replicate n b).foldl (· ++ ·) acc).toList = acc.toList ++ (List.replicate n b.toList).flatten
  | 0, _, _ => by simp
  | n + 1, b, acc => by
    rw [List.replicate_succ, List.foldl_cons, foldl_app n b, List.replicate_succ, List.flatten_cons]
    simp
theorem mul_is {z : Str} {n : Int} (h0 : 0 ≤ n) : Txt.mul z n = ⟨(List.replicate n.toNat z.cps.toList).flatten.toArray⟩ := by
  unfold Txt.mul
  by_cases h1 : n < 1
  · rw [if_pos h1]
    have : n = 0 := by omega
    subst this
    rfl
  · rw [if_neg h1]
    by_cases h2 : (n == 1 || z.length == 0) = true
    · rw [if_pos h2]
      obtain ⟨cs⟩ := z
      rcases (Bool.or_eq_true_iff.mp h2) with q | q
      · have : n = 1 := by simpa using q
        subst this
        simp
      · have e : cs.size = 0 := by simpa [Str.length] using q
        have e2 : cs = #[] := Array.eq_empty_of_size_eq_zero e
        subst e2
        simp
    · rw [if_neg h2]
      congr 1
      apply Array.ext'
      rw [foldl_app]
      simp
theorem op_mulS {X : Cx} : OpR X (binaryOp .Mult) rMulS := by
  intro pins s σ H x y v u Q I rx ry h
  obtain ⟨z, n, rfl, rfl, ⟨h0, h1, h2⟩, q⟩ := h
  obtain ⟨t, rfl⟩ := rx
  obtain ⟨t2, rfl⟩ := ry
  have hs : sizeLine = 16777216 := sizeLine_eq
  refine SB.mul (x := z) ⟨?_, fun h3 h4 h5 => ?_, fun h3 h4 => ?_⟩ fun t' k => ?_
  · simp; omega
  · have e0 : z.length ≠ 0 := fun e => by simp [e] at h4
    have : (z.length : Int) ≤ 16777216 := by
      have : z.length * 1 ≤ z.length * n.toNat := Nat.mul_le_mul_left _ (by omega)
      omega
    have hd : (16777216 : Int) ≤ (2 ^ 63 - 1) / n := by
      refine (Int.le_ediv_iff_mul_le (by omega)).mpr ?_
      have : n ≤ 16777216 := by
        have : 1 * n.toNat ≤ z.length * n.toNat := Nat.mul_le_mul_right _ (by omega)
        omega
      omega
    omega
  · show Builtin.Str.tooLong _ = false
    unfold Builtin.Str.tooLong
    simp
    omega
  · rw [mul_is h0]
    exact ⟨.str _, H, by obtain ⟨hh, g, d, tk, os⟩ := s; exact I.tok _, ⟨_, rfl⟩, q⟩
def rMul' : R2 := rOr (rI CMul fun i j => .int (i * j)) rMulS
theorem o_mul {X : Cx} : OpR X (binaryOp .Mult) rMul' := OpR.or op_mul op_mulS
theorem s_mul {K : PySem.W.Frag} : OpS K rMul' dMul := by
  intro w H h x y a b d Q ok vx vy e q
  unfold dMul at e
  split at e
  · split at e
    · next c =>
      cases e
      cases vx
      cases vy
      exact .inl ⟨_, _, rfl, rfl, c, q _ _ _ (Step.refl _ _) ok (.int _)⟩
    · cases e
  · split at e
    · next c =>
      cases e
      cases vx
      cases vy
      exact .inr ⟨_, _, rfl, rfl, c, q _ _ _ (Step.refl _ _) ok (.str _)⟩
    · cases e
  · cases e
def dNeg : D → Hap → Option D := fun a _ => match a with
  | .int i => some (.int (-i))
  | _ => none
theorem s_neg {K : PySem.W.Frag} : UnS K (rU fun i => .int (-i)) dNeg := by
  intro w H h x a d Q ok vx e q
  unfold dNeg at e
  split at e <;> cases e
  cases vx
  exact ⟨_, rfl, q _ _ _ (Step.refl _ _) ok (.int _)⟩

/-! ### comparisons -/
mutual
def D.py : D → Option PyData
  | .non => some .none
  | .bl b => some (.bool b)
  | .int i => some (.int i)
  | .str x => some (.str x)
  | .lst xs => (D.pys xs).map .list
  | .klst xs => (D.pys xs).map .list
  | .tup xs => (D.pys xs).map .tuple
  | .ref _ => none
  | .ty _ => none
def D.pys : List D → Option (List PyData)
  | [] => some []
  | d :: ds => match d.py, D.pys ds with
    | some x, some xs => some (x :: xs)
    | _, _ => none
end
def pyOf (d : D) (h : Hap) : Option PyData := match d with
  | .ref i => match h[i]? with
    | some (.lst xs) => (D.pys xs).map .list
    | _ => none
  | d => d.py
mutual
theorem VR.dp {K : PySem.W.Frag} {w : Wd} {H : Hp} (sub : ∀ a o, w.F a = some o → H a = some o) : ∀ {x : V} {d : D} {p : PyData}, VR K w x d → d.py = some p → Dp K H x p
  | _, _, _, .non, e => by simp [D.py] at e; subst e; exact .non
  | _, _, _, .bl b, e => by simp [D.py] at e; subst e; exact .bl b
  | _, _, _, .int b, e => by simp [D.py] at e; subst e; exact .int b
  | _, _, _, .str b, e => by simp [D.py] at e; subst e; exact .str b
  | _, _, _, .ty b, e => by simp [D.py] at e
  | _, _, _, .ref b, e => by simp [D.py] at e
  | _, _, _, .lst e1 e2, e => by
    simp [D.py] at e
    obtain ⟨q, e3, rfl⟩ := e
    exact .lst (.inl (.inl (sub _ _ e1))) (VRs.dp sub e2 e3)
  | _, _, _, .klst e1 e2, e => by
    simp [D.py] at e
    obtain ⟨q, e3, rfl⟩ := e
    exact .lst (sqL_mono sub e1) (VRs.dp sub e2 e3)
  | _, _, _, .tup e1 e2, e => by
    simp [D.py] at e
    obtain ⟨q, e3, rfl⟩ := e
    exact .tup (sqT_mono sub e1) (VRs.dp sub e2 e3)
theorem VRs.dp {K : PySem.W.Frag} {w : Wd} {H : Hp} (sub : ∀ a o, w.F a = some o → H a = some o) : ∀ {x : List V} {d : List D} {p : List PyData}, VRs K w x d → D.pys d = some p → DpAll K H x p
  | _, _, _, .nil, e => by simp [D.pys] at e; subst e; exact .nil
  | _, _, _, .cons a b, e => by
    unfold D.pys at e
    split at e
    · next x xs e1 e2 =>
      cases e
      exact .cons (VR.dp sub a e1) (VRs.dp sub b e2)
    · cases e
end
theorem pyOf_ok {K : PySem.W.Frag} {w : Wd} {H : Hp} {h : Hap} {x : V} {d : D} {p : PyData} (ok : Ok K w H h) (r : VR K w x d) (e : pyOf d h = some p) : Dp K H x p := by
  unfold pyOf at e
  split at e
  · next i =>
    split at e
    · next xs e2 =>
      cases r
      next a e1 =>
      obtain ⟨_, o, e3, e4⟩ := ok.cel i a _ e1 e2
      cases o <;> simp [CRel] at e4
      simp at e
      obtain ⟨q, e5, rfl⟩ := e
      exact .lst (.inl (.inl e3)) (VRs.dp ok.sub e4 e5)
    · cases e
  · exact VR.dp ok.sub r e
/-- == -/
def eqO (a b : D) (h : Hap) : Option Bool := match a, b with
  | .str x, .str y => some (decide (x = y))
  | .int x, .int y => some (decide (x = y))
  | .bl x, .bl y => some (decide (x = y))
  | a, b => match pyOf a h, pyOf b h with
    | some p, some q => if SeqAt.shaped p = true ∧ SeqAt.shaped q = true then some (PyData.eqv p q) else none
    | _, _ => none
def dEq : D → D → Hap → Option D := fun a b h => (eqO a b h).map .bl
def dNe : D → D → Hap → Option D := fun a b h => (eqO a b h).map fun b => .bl (!b)
def rEq' (K : PySem.W.Frag) : R2 := rOr rEq (rEqD K)
def rNe' (K : PySem.W.Frag) : R2 := rOr rNe (rNeD K)
theorem o_eq {X : Cx} (hu : X.A.units + 64 < cLine) : OpR X (compareOp .Eq) (rEq' X.K) := OpR.or op_eq (op_eqD hu)
theorem o_ne {X : Cx} (hu : X.A.units + 64 < cLine) : OpR X (compareOp .NotEq) (rNe' X.K) := OpR.or op_ne (op_neD hu)
theorem s_eq {K : PySem.W.Frag} : OpS K (rEq' K) dEq := by
  intro w H h x y a b d Q ok vx vy e0 q
  obtain ⟨z, e, ez⟩ := Option.map_eq_some_iff.mp e0
  clear e0
  subst ez
  have fin : Q (.bl z) H := q _ _ _ (Step.refl _ _) ok (.bl _)
  unfold eqO at e
  split at e
  · cases e
    cases vx
    cases vy
    exact .inl ⟨rfl, by simpa using fin⟩
  · cases e
    cases vx
    cases vy
    exact .inl ⟨rfl, by simpa using fin⟩
  · cases e
    cases vx
    cases vy
    exact .inl ⟨rfl, by simpa using fin⟩
  · split at e
    · next p q' e1 e2 =>
      split at e
      · next c =>
        cases e
        exact .inr ⟨p, q', pyOf_ok ok vx e1, pyOf_ok ok vy e2, c.1, c.2, fin⟩
      · cases e
    · cases e
theorem s_ne {K : PySem.W.Frag} : OpS K (rNe' K) dNe := by
  intro w H h x y a b d Q ok vx vy e0 q
  obtain ⟨z, e, ez⟩ := Option.map_eq_some_iff.mp e0
  clear e0
  subst ez
  have fin : Q (.bl (!z)) H := q _ _ _ (Step.refl _ _) ok (.bl _)
  unfold eqO at e
  split at e
  · cases e
    cases vx
    cases vy
    exact .inl ⟨rfl, by simpa using fin⟩
  · cases e
    cases vx
    cases vy
    exact .inl ⟨rfl, by simpa using fin⟩
  · cases e
    cases vx
    cases vy
    exact .inl ⟨rfl, by simpa using fin⟩
  · split at e
    · next p q' e1 e2 =>
      split at e
      · next c =>
        cases e
        exact .inr ⟨p, q', pyOf_ok ok vx e1, pyOf_ok ok vy e2, c.1, c.2, fin⟩
      · cases e
    · cases e
/-- the order of ints and texts -/
def dCmp (fi : Int → Int → Bool) (fs : Str → Str → Bool) : D → D → Hap → Option D := fun a b _ => match a, b with
  | .int i, .int j => some (.bl (fi i j))
  | .str i, .str j => some (.bl (fs i j))
  | _, _ => none
def sLt (i j : Str) : Bool := decide (i.cps.toList < j.cps.toList)
def dLt := dCmp (fun i j => decide (i < j)) sLt
def dLe := dCmp (fun i j => decide (i ≤ j)) fun i j => !sLt j i
def dGt := dCmp (fun i j => decide (j < i)) fun i j => sLt j i
def dGe := dCmp (fun i j => decide (j ≤ i)) fun i j => !sLt i j
def rCmpS (fs : Str → Str → Bool) : R2 := fun x y H Q => ∃ i j, x = .str i ∧ y = .str j ∧ Q (.bl (fs i j)) H
theorem s_cmp {K : PySem.W.Frag} {fi : Int → Int → Bool} {fs : Str → Str → Bool} : OpS K (rOr (rI0 fun i j => .bl (fi i j)) (rCmpS fs)) (dCmp fi fs) := by
  intro w H h x y a b d Q ok vx vy e q
  unfold dCmp at e
  split at e
  · cases e
    cases vx
    cases vy
    exact .inl ⟨_, _, rfl, rfl, q _ _ _ (Step.refl _ _) ok (.bl _)⟩
  · cases e
    cases vx
    cases vy
    exact .inr ⟨_, _, rfl, rfl, q _ _ _ (Step.refl _ _) ok (.bl _)⟩
  · cases e
theorem o_lt {X : Cx} : OpR X (compareOp .Lt) (rOr (rI0 fun i j => .bl (decide (i < j))) (rCmpS sLt)) := OpR.or op_lt op_lt_str
theorem o_le {X : Cx} : OpR X (compareOp .LtE) (rOr (rI0 fun i j => .bl (decide (i ≤ j))) (rCmpS fun i j => !sLt j i)) := OpR.or op_le op_le_str
theorem o_gt {X : Cx} : OpR X (compareOp .Gt) (rOr (rI0 fun i j => .bl (decide (j < i))) (rCmpS fun i j => sLt j i)) := OpR.or op_gt op_gt_str
theorem o_ge {X : Cx} : OpR X (compareOp .GtE) (rOr (rI0 fun i j => .bl (decide (j ≤ i))) (rCmpS fun i j => !sLt i j)) := OpR.or op_ge op_ge_str
def isN : D → Bool
  | .non => true
  | _ => false
def dIs : D → D → Hap → Option D := fun a b _ => match b with
  | .non => some (.bl (isN a))
  | _ => none
def dIsNot : D → D → Hap → Option D := fun a b _ => match b with
  | .non => some (.bl (!isN a))
  | _ => none
theorem isN_ok {K : PySem.W.Frag} {w : Wd} {x : V} {a : D} (r : VR K w x a) : decide (x = .non) = isN a := by cases r <;> simp [isN]
theorem s_is {K : PySem.W.Frag} : OpS K (fun x y H Q => y = .non ∧ Q (.bl (decide (x = .non))) H) dIs := by
  intro w H h x y a b d Q ok vx vy e q
  unfold dIs at e
  split at e <;> cases e
  cases vy
  exact ⟨rfl, by rw [isN_ok vx]; exact q _ _ _ (Step.refl _ _) ok (.bl _)⟩
theorem s_isNot {K : PySem.W.Frag} : OpS K (fun x y H Q => y = .non ∧ Q (.bl (!decide (x = .non))) H) dIsNot := by
  intro w H h x y a b d Q ok vx vy e q
  unfold dIsNot at e
  split at e <;> cases e
  cases vy
  exact ⟨rfl, by rw [isN_ok vx]; exact q _ _ _ (Step.refl _ _) ok (.bl _)⟩
/-- in: a text in a text, flat data in a list or tuple -/
def D.fl : D → Option V
  | .non => some .non
  | .bl b => some (.bl b)
  | .int i => some (.int i)
  | .str x => some (.str x)
  | _ => none
def fls : List D → Option (List V)
  | [] => some []
  | d :: ds => match d.fl, fls ds with
    | some x, some xs => some (x :: xs)
    | _, _ => none
theorem fl_ok {K : PySem.W.Frag} {w : Wd} {x v : V} {a : D} (r : VR K w x a) (e : a.fl = some v) : x = v ∧ flatV x = true := by
  cases r <;> simp [D.fl] at e <;> subst e <;> exact ⟨rfl, rfl⟩
theorem fls_ok {K : PySem.W.Frag} {w : Wd} : ∀ {x v : List V} {a : List D}, VRs K w x a → fls a = some v → x = v ∧ x.all flatV = true
  | _, _, _, .nil, e => by simp [fls] at e; subst e; exact ⟨rfl, rfl⟩
  | _, _, _, .cons a b, e => by
    unfold fls at e
    split at e
    · next y ys e1 e2 =>
      cases e
      obtain ⟨q1, q2⟩ := fl_ok a e1
      obtain ⟨q3, q4⟩ := fls_ok b e2
      exact ⟨by rw [q1, q3], by rw [List.all_cons, q2, q4]; rfl⟩
    · cases e
def inO (a b : D) (h : Hap) : Option Bool := match a, b with
  | .str x, .str z => if x.cps.size = 1 then some (decide (x.cps[0]! ∈ z.cps.toList)) else some (!(Builtin.Str.occurrences z x 0 z.length 1).isEmpty)
  | a, b => match a.fl, (getQ b h).bind fls with
    | some x, some xs => some (inV x xs)
    | _, _ => none
def dIn : D → D → Hap → Option D := fun a b h => (inO a b h).map .bl
def dNotIn : D → D → Hap → Option D := fun a b h => (inO a b h).map fun b => .bl (!b)
def rInSign (n : Bool) : R2 := fun x y H Q => ∃ (c : Nat) (z : Str), x = .str ⟨#[c]⟩ ∧ y = .str z ∧ Q (.bl (if n then !decide (c ∈ z.cps.toList) else decide (c ∈ z.cps.toList))) H
def rInStr (n : Bool) : R2 := fun x y H Q => ∃ i j, x = .str i ∧ y = .str j ∧ Q (.bl (if n then !(!(Builtin.Str.occurrences j i 0 j.length 1).isEmpty) else !(Builtin.Str.occurrences j i 0 j.length 1).isEmpty)) H
def rIn' (K : PySem.W.Frag) (n : Bool) : R2 := rOr (rInSign n) (rOr (rInStr n) (rIn K n))
theorem o_in {X : Cx} : OpR X (compareOp .In) (rIn' X.K false) := OpR.or op_in_sign (OpR.or op_in_str op_in_seq)
theorem o_notIn {X : Cx} : OpR X (compareOp .NotIn) (rIn' X.K true) := OpR.or op_notIn_sign (OpR.or op_notIn_str op_notIn_seq)
theorem in_core {K : PySem.W.Frag} {n : Bool} {w : Wd} {H : Hp} {h : Hap} {x y : V} {a b : D} {z : Bool} {Q : VK} (ok : Ok K w H h) (vx : VR K w x a) (vy : VR K w y b) (e : inO a b h = some z) (q : Q (.bl (if n then !z else z)) H) : rIn' K n x y H Q := by
  unfold inO at e
  split at e
  · next i j =>
    cases vx
    cases vy
    split at e
    · next hs =>
      cases e
      obtain ⟨cs⟩ := i
      have hs' : cs.size = 1 := hs
      have ec : cs = #[cs[0]!] := by
        apply Array.ext
        · simp [hs']
        · intro k hk1 hk2
          have : k = 0 := by omega
          subst this
          simp [hk1]
      refine .inl ⟨cs[0]!, j, ?_, rfl, q⟩
      rw [← ec]
    · cases e
      exact .inr (.inl ⟨_, _, rfl, rfl, q⟩)
  · split at e
    · next x' xs e1 e2 =>
      cases e
      cases e3 : getQ b h with
      | none => rw [e3] at e2; cases e2
      | some ds =>
        rw [e3] at e2
        obtain ⟨p, vs, rfl, h1, r1⟩ := getQ_ok ok vy e3
        obtain ⟨q1, q2⟩ := fl_ok vx e1
        obtain ⟨q3, q4⟩ := fls_ok r1 e2
        exact .inr (.inr ⟨p, vs, rfl, h1, q2, q4, by rw [q1, q3]; exact q⟩)
    · cases e
theorem s_in {K : PySem.W.Frag} : OpS K (rIn' K false) dIn := by
  intro w H h x y a b d Q ok vx vy e0 q
  obtain ⟨z, e, ez⟩ := Option.map_eq_some_iff.mp e0
  clear e0
  subst ez
  exact in_core ok vx vy e (q _ _ _ (Step.refl _ _) ok (.bl _))
theorem s_notIn {K : PySem.W.Frag} : OpS K (rIn' K true) dNotIn := by
  intro w H h x y a b d Q ok vx vy e0 q
  obtain ⟨z, e, ez⟩ := Option.map_eq_some_iff.mp e0
  clear e0
  subst ez
  exact in_core ok vx vy e (q _ _ _ (Step.refl _ _) ok (.bl _))

/-! ### subscripts, slices -/
def dIx : D → D → Hap → Option D := fun a b h => match b with
  | .int i => match a with
    | .str z => if z.length ≤ sizeLine then (atI z.cps.toList i).map fun c => .str (ch c) else none
    | a => (getQ a h).bind fun xs => atI xs i
  | _ => none
theorem ix_seq' {X : Cx} : IxR X (rIx X.K) := ix_seq
theorem atI_vr {K : PySem.W.Frag} {w : Wd} {vs : List V} {ds : List D} {i : Int} {d : D} (r : VRs K w vs ds) (e : atI ds i = some d) : ∃ v, atI vs i = some v ∧ VR K w v d := by
  unfold atI at e ⊢
  rw [← r.length] at e
  cases q : ixN vs.length i with
  | none => rw [q] at e; cases e
  | some j =>
    rw [q] at e
    exact r.get' e
theorem s_ix {K : PySem.W.Frag} : OpS K (rIx K) dIx := by
  intro w H h x y a b d Q ok vx vy e q
  unfold dIx at e
  split at e
  · next i =>
    cases vy
    split at e
    · next z =>
      cases vx
      split at e
      · next hl =>
        obtain ⟨c, e1, rfl⟩ := Option.map_eq_some_iff.mp e
        exact .inr (.inr ⟨_, _, c, rfl, rfl, hl, e1, q _ _ _ (Step.refl _ _) ok (.str _)⟩)
      · cases e
    · cases e3 : getQ a h with
      | none => rw [e3] at e; cases e
      | some ds =>
        rw [e3] at e
        obtain ⟨p, vs, rfl, h1, r1⟩ := getQ_ok ok vx e3
        obtain ⟨v, e4, r2⟩ := atI_vr r1 e
        have fin := q v w H (Step.refl _ _) ok r2
        rcases h1 with h1 | h1
        · exact .inl ⟨p, vs, i, v, rfl, rfl, h1, e4, fin⟩
        · exact .inr (.inl ⟨p, vs, i, v, rfl, rfl, h1, e4, fin⟩)
  · cases e
theorem e_ix {X : Cx} {W : WX} {a b : Expr} {ma mb : ME} {pos : Pos} (ha : PE X a (tE X.K X.mg W ma)) (hb : PE X b (tE X.K X.mg W mb)) (hs : PlainIx b) : PE X (.Subscript a b pos) (tE X.K X.mg W (mBin dIx ma mb)) := PE.imp (pe_ix ix_seq ha hb hs) (t_bin s_ix)
abbrev MO := Env → Hap → Rs (Option Int)
def tO (K : PySem.W.Frag) (gm : Str → Option Value) (W : WX) (m : MO) : TO := fun σ H Q => ∃ w env h, Ok K w H h ∧ EnvR K w σ env ∧ Post K gm (fun _ v b => v = b) w H (m env h) Q fun c d H' => W c d σ H'
def mNoP : MO := fun _ h => .ok none h
def oI : D → Option (Option Int)
  | .int i => some (some i)
  | _ => none
def mPart (a : ME) : MO := fun env h => (a env h).bind fun x h1 => ofO (oI x) h1
theorem PO.imp {X : Cx} {e : Option Expr} {t t' : TO} (p : PO X e t) (i : ∀ σ H Q, t' σ H Q → t σ H Q) : PO X e t' := ⟨fun pins s σ H Q I h => p.run pins s σ H Q I (i _ _ _ h)⟩
section
variable {X : Cx} {W : WX}
theorem o_none : PO X none (tO X.K X.mg W mNoP) := PO.imp po_none fun σ H Q ⟨w, env, h, ok, er, p⟩ => p.ok ok rfl
theorem o_some {e : Expr} {m : ME} (he : PE X e (tE X.K X.mg W m)) : PO X (some e) (tO X.K X.mg W (mPart m)) := PO.imp (po_some he) fun σ H Q ⟨w, env, h, ok, er, p⟩ =>
  ⟨w, env, h, ok, er, Post.bind p fun x da w1 H1 h1 s1 ok1 v1 p1 => by
    obtain ⟨d, e, q⟩ := ofO_post p1
    cases da <;> simp [oI] at e
    subst e
    cases v1
    exact ⟨_, rfl, q _ w1 H1 (Step.refl _ _) ok1 rfl⟩⟩
end
def cutX {α : Type} (xs : List α) (lo hi : Option Int) : List α := (xs.drop (HT.sIx xs.length 0 lo)).take (HT.sIx xs.length xs.length hi - HT.sIx xs.length 0 lo)
def dSl (a : D) (lo hi : Option Int) (h : Hap) : Option D := match a with
  | .str z => if z.length ≤ sizeLine then some (.str (cutS z lo hi)) else none
  | .tup xs => some (.tup (cutX xs lo hi))
  | a => (getL a h).map fun xs => .lst (cutX xs lo hi)
def rSl' (K : PySem.W.Frag) : V → Option Int → Option Int → Hp → VK → Prop := fun x lo hi H Q => rSlS x lo hi H Q ∨ rSlL K x lo hi H Q ∨ rSlA K x lo hi H Q
theorem sl_any {X : Cx} : SlR X (rSl' X.K) := fun pins s σ H x v vl vu lo hi sl Q I r1 r2 r3 r4 z => by
  rcases z with z | z | z
  · exact sl_str pins s σ H x v vl vu lo hi sl Q I r1 r2 r3 r4 z
  · exact sl_list pins s σ H x v vl vu lo hi sl Q I r1 r2 r3 r4 z
  · exact sl_tupA pins s σ H x v vl vu lo hi sl Q I r1 r2 r3 r4 z
theorem cutX_V {K : PySem.W.Frag} {w : Wd} {vs : List V} {ds : List D} (r : VRs K w vs ds) (lo hi : Option Int) : VRs K w (cutV vs lo hi) (cutX ds lo hi) := by
  unfold cutV cutX
  rw [r.length]
  exact (r.drop _).take _
def mSl (a : ME) (lo hi : MO) : ME := fun env h => (a env h).bind fun x h1 => (lo env h1).bind fun l h2 => (hi env h2).bind fun u h3 => ofO (dSl x l u h3) h3
theorem e_sl {X : Cx} {W : WX} {e : Expr} {lo hi : Option Expr} {p2 pos : Pos} {ma : ME} {ml mh : MO} (ha : PE X e (tE X.K X.mg W ma)) (hl : PO X lo (tO X.K X.mg W ml)) (hh : PO X hi (tO X.K X.mg W mh)) : PE X (.Subscript e (.Slice lo hi none p2) pos) (tE X.K X.mg W (mSl ma ml mh)) :=
  PE.imp (pe_slice sl_any ha hl hh) fun σ H Q ⟨w, env, h, ok, er, p⟩ => ⟨w, env, h, ok, er, Post.bind p fun x a w1 H1 h1 s1 ok1 v1 p1 =>
    ⟨w1, env, h1, ok1, er.mono s1, Post.bind p1 fun l l' w2 H2 h2 s2 ok2 v2 p2 => by
      subst v2
      refine ⟨w2, env, h2, ok2, (er.mono s1).mono s2, Post.bind p2 fun u u' w3 H3 h3 s3 ok3 v3 p3 => ?_⟩
      subst v3
      obtain ⟨d, e, q⟩ := ofO_post p3
      have vx := (v1.mono s2).mono s3
      unfold dSl at e
      split at e
      · cases vx
        split at e
        · next hl => cases e; exact .inl ⟨_, rfl, hl, q _ _ _ (Step.refl _ _) ok3 (.str _)⟩
        · cases e
      · next xs =>
        cases e
        obtain ⟨p, vs, rfl, h1, r1⟩ := getT_ok ok3 vx rfl
        refine .inr (.inr ⟨p, vs, rfl, h1, fun z => ?_, fun z a ha => ?_⟩)
        · refine q _ _ _ (Step.refl _ _) ok3 ?_
          have e : cutX xs l u = xs := by
            unfold cutX
            rw [r1.length] at z
            rw [z.1, z.2]
            simp
          rw [e]
          exact vx
        · exact q _ _ _ (ok3.alloc ha).2 (ok3.alloc ha).1 (vr_tup ok3 ha (cutX_V r1 l u))
      · obtain ⟨xs, e1, e2⟩ := Option.map_eq_some_iff.mp e
        subst e2
        obtain ⟨p, vs, rfl, h1, r1⟩ := getL_ok ok3 vx e1
        exact .inr (.inl ⟨p, vs, rfl, h1, fun a ha => q _ _ _ (ok3.alloc ha).2 (ok3.alloc ha).1 (vr_lst ok3 ha (cutX_V r1 l u))⟩)⟩⟩
end
end Vi

set_option Elab.async false
set_option linter.all false
set_option autoImplicit false
set_option maxRecDepth 100000
set_option maxHeartbeats 2000000
namespace Vi
open PySem PySem.Spec PyProof.Rows L2
variable {gm : Str → Option Value}
open scoped Classical
noncomputable section

/-! ### calls of built-ins -/
def CallS (K : PySem.W.Frag) (r : List V → Hp → VK → Prop) (g : List D → Hap → Option D) : Prop := ∀ (w : Wd) (H : Hp) (h : Hap) (xs : List V) (ds : List D) (d : D) (Q : VK), Ok K w H h → VRs K w xs ds → g ds h = some d →
  (∀ v w' H', Step w H w' H' → Ok K w' H' h → VR K w' v d → Q v H') → r xs H Q
def mCB (g : List D → Hap → Option D) (a : MA) : ME := fun env h => (a env h).bind fun xs h1 => ofO (g xs h1) h1
theorem t_cb {K : PySem.W.Frag} {W : WX} {r : List V → Hp → VK → Prop} {g : List D → Hap → Option D} {a : MA} (s : CallS K r g) : ∀ σ H Q, tE K gm W (mCB g a) σ H Q → tCB r (tA K gm W a) σ H Q := fun σ H Q ⟨w, env, h, ok, er, p⟩ =>
  ⟨w, env, h, ok, er, Post.bind p fun x da w1 H1 h1 s1 ok1 v1 p1 => by
    obtain ⟨d, e, q⟩ := ofO_post p1
    exact s w1 H1 h1 x da d Q ok1 v1 e q⟩
section
variable {X : Cx} {W : WX} {x : Str} {p pos : Pos} {e : Expr} {es : List Expr} {m : MA} {id : String} {r : List V → Hp → VK → Prop} {g : List D → Hap → Option D}
theorem e_cb (hc : CallR X (.builtin id) r) (s : CallS X.K r g) (hg : Gl X x) (hm : X.mg x = none) (hv : bootBuiltins x = some (.builtin id)) (ha : PA X (e :: es) (tA X.K X.mg W m)) (hn : x ≠ "__name__" := by decide) (hdb : (x == ("__debug__" : Str)) = false := by decide)
    (he : starEach (e :: es) X.env = (false, eval e X.env) :: starEach es X.env := by rfl) (hpl : (backTo pos (starEach es X.env)).any (·.1) = false := by rfl) : PE X (.Call (.Name x p) (e :: es) [] pos) (tE X.K X.mg W (mCB g m)) := PE.imp (pe_callB hc hg hm hv ha hn hdb he hpl) (t_cb s)
theorem e_cty (hc : CallR X (.type id) r) (s : CallS X.K r g) (hg : Gl X x) (hm : X.mg x = none) (hv : bootBuiltins x = some (.type id)) (ha : PA X (e :: es) (tA X.K X.mg W m)) (hn : x ≠ "__name__" := by decide) (hdb : (x == ("__debug__" : Str)) = false := by decide)
    (he : starEach (e :: es) X.env = (false, eval e X.env) :: starEach es X.env := by rfl) (hpl : (backTo pos (starEach es X.env)).any (·.1) = false := by rfl) : PE X (.Call (.Name x p) (e :: es) [] pos) (tE X.K X.mg W (mCB g m)) := PE.imp (pe_callTy hc hg hm hv ha hn hdb he hpl) (t_cb s)
end
theorem vrs1 {K : PySem.W.Frag} {w : Wd} {xs : List V} {d : D} (r : VRs K w xs [d]) : ∃ x, xs = [x] ∧ VR K w x d := by
  cases r with
  | cons a b => cases b; exact ⟨_, rfl, a⟩
theorem vrs2 {K : PySem.W.Frag} {w : Wd} {xs : List V} {d e : D} (r : VRs K w xs [d, e]) : ∃ x y, xs = [x, y] ∧ VR K w x d ∧ VR K w y e := by
  cases r with
  | cons a b =>
    obtain ⟨y, rfl, q⟩ := vrs1 b
    exact ⟨_, y, rfl, a, q⟩
def dLen : List D → Hap → Option D := fun ds h => match ds with
  | [.str z] => if z.length ≤ sizeLine then some (.int z.length) else none
  | [d] => (getQ d h).map fun xs => .int xs.length
  | _ => none
theorem s_len {K : PySem.W.Frag} : CallS K (fun xs H Q => ∃ x n, xs = [x] ∧ LenV K x H n ∧ Q (.int n) H) dLen := by
  intro w H h xs ds d Q ok vr e q
  unfold dLen at e
  split at e
  · obtain ⟨x, rfl, r⟩ := vrs1 vr
    cases r
    split at e
    · next hl => cases e; exact ⟨_, _, rfl, ⟨hl, rfl⟩, q _ _ _ (Step.refl _ _) ok (.int _)⟩
    · cases e
  · obtain ⟨x, rfl, r⟩ := vrs1 vr
    obtain ⟨xs, e1, e2⟩ := Option.map_eq_some_iff.mp e
    subst e2
    obtain ⟨p, vs, rfl, h1, r1⟩ := getQ_ok ok r e1
    refine ⟨_, vs.length, rfl, ?_, by rw [r1.length]; exact q _ _ _ (Step.refl _ _) ok (.int _)⟩
    rcases h1 with h1 | h1
    · exact .inl ⟨vs, h1, rfl⟩
    · exact .inr ⟨vs, h1, rfl⟩
  · cases e
theorem s_intInt {K : PySem.W.Frag} {f : Int → Int} {g : List D → Hap → Option D} (hg : ∀ ds h d, g ds h = some d → ∃ i, ds = [.int i] ∧ d = .int (f i)) : CallS K (fun xs H Q => ∃ i, xs = [.int i] ∧ Q (.int (f i)) H) g := by
  intro w H h xs ds d Q ok vr e q
  obtain ⟨i, rfl, rfl⟩ := hg _ _ _ e
  obtain ⟨x, rfl, r⟩ := vrs1 vr
  cases r
  exact ⟨i, rfl, q _ _ _ (Step.refl _ _) ok (.int _)⟩
def dAbs : List D → Hap → Option D := fun ds _ => match ds with
  | [.int i] => some (.int (if i < 0 then -i else i))
  | _ => none
theorem s_abs {K : PySem.W.Frag} : CallS K (fun xs H Q => ∃ i, xs = [.int i] ∧ Q (.int (if i < 0 then -i else i)) H) dAbs := s_intInt fun ds h d e => by
  unfold dAbs at e
  split at e <;> cases e
  exact ⟨_, rfl, rfl⟩
/-- int(..) of an int, a bool -/
def dInt : List D → Hap → Option D := fun ds _ => match ds with
  | [.int i] => some (.int i)
  | [.bl b] => some (.int (if b then 1 else 0))
  | _ => none
theorem s_int {K : PySem.W.Frag} : CallS K (fun xs H Q => (∃ i, xs = [.int i] ∧ Q (.int i) H) ∨ ∃ k, xs = [.bl k] ∧ Q (.int (if k then 1 else 0)) H) dInt := by
  intro w H h xs ds d Q ok vr e q
  unfold dInt at e
  split at e <;> cases e
  · obtain ⟨x, rfl, r⟩ := vrs1 vr
    cases r
    exact .inl ⟨_, rfl, q _ _ _ (Step.refl _ _) ok (.int _)⟩
  · obtain ⟨x, rfl, r⟩ := vrs1 vr
    cases r
    exact .inr ⟨_, rfl, q _ _ _ (Step.refl _ _) ok (.int _)⟩
def blsOf : List D → Option (List Bool)
  | [] => some []
  | .bl b :: ds => (blsOf ds).map (b :: ·)
  | _ => none
theorem blsOf_ok {K : PySem.W.Frag} {w : Wd} : ∀ {v : List V} {ds : List D} {bs : List Bool}, VRs K w v ds → blsOf ds = some bs → v = bs.map V.bl
  | _, [], bs, .nil, e => by simp [blsOf] at e; subst e; rfl
  | _, .bl b :: ds, bs, .cons (.bl _) t, e => by
    simp [blsOf] at e
    obtain ⟨c, e1, rfl⟩ := e
    rw [blsOf_ok t e1]
    rfl
  | _, .non :: _, _, _, e => by simp [blsOf] at e
  | _, .int _ :: _, _, _, e => by simp [blsOf] at e
  | _, .str _ :: _, _, _, e => by simp [blsOf] at e
  | _, .lst _ :: _, _, _, e => by simp [blsOf] at e
  | _, .klst _ :: _, _, _, e => by simp [blsOf] at e
  | _, .tup _ :: _, _, _, e => by simp [blsOf] at e
  | _, .ref _ :: _, _, _, e => by simp [blsOf] at e
  | _, .ty _ :: _, _, _, e => by simp [blsOf] at e
def dAll : List D → Hap → Option D := fun ds h => match ds with
  | [d] => ((getL d h).bind blsOf).map fun bs => .bl (bs.all id)
  | _ => none
def dAny : List D → Hap → Option D := fun ds h => match ds with
  | [d] => ((getL d h).bind blsOf).map fun bs => .bl (bs.any id)
  | _ => none
theorem s_all {K : PySem.W.Frag} : CallS K (rAll K) dAll := by
  intro w H h xs ds d Q ok vr e q
  unfold dAll at e
  split at e
  · next d0 =>
    obtain ⟨x, rfl, r⟩ := vrs1 vr
    obtain ⟨bs, e1, e2⟩ := Option.map_eq_some_iff.mp e
    subst e2
    obtain ⟨ds, e2, e3⟩ := Option.bind_eq_some_iff.mp e1
    obtain ⟨p, vs, rfl, h1, r1⟩ := getL_ok ok r e2
    have q2 := blsOf_ok r1 e3
    subst q2
    exact ⟨p, bs, rfl, h1, q _ _ _ (Step.refl _ _) ok (.bl _)⟩
  · cases e
theorem s_any {K : PySem.W.Frag} : CallS K (rAny K) dAny := by
  intro w H h xs ds d Q ok vr e q
  unfold dAny at e
  split at e
  · next d0 =>
    obtain ⟨x, rfl, r⟩ := vrs1 vr
    obtain ⟨bs, e1, e2⟩ := Option.map_eq_some_iff.mp e
    subst e2
    obtain ⟨ds, e2, e3⟩ := Option.bind_eq_some_iff.mp e1
    obtain ⟨p, vs, rfl, h1, r1⟩ := getL_ok ok r e2
    have q2 := blsOf_ok r1 e3
    subst q2
    exact ⟨p, bs, rfl, h1, q _ _ _ (Step.refl _ _) ok (.bl _)⟩
  · cases e
/-- isinstance with a written built-in class -/
def tyD (d : D) (h : Hap) : Option String := match d with
  | .non => some "NoneType"
  | .bl _ => some "bool"
  | .int _ => some "int"
  | .str _ => some "str"
  | .lst _ => some "list"
  | .klst _ => some "list"
  | .tup _ => some "tuple"
  | .ref i => match h[i]? with
    | some (.lst _) => some "list"
    | some (.dct _) => some "dict"
    | _ => none
  | .ty _ => none
theorem tyX_ok {K : PySem.W.Frag} {w : Wd} {H : Hp} {h : Hap} {x : V} {d : D} {n : String} (ok : Ok K w H h) (r : VR K w x d) (e : tyD d h = some n) : TyX K H x (.type n) := by
  cases r <;> simp [tyD] at e
  case non => subst e; exact .base .non
  case bl b => subst e; exact .base (.bl b)
  case int b => subst e; exact .base (.int b)
  case str b => subst e; exact .base (.str b)
  case lst a vs ds e1 e2 => subst e; exact .base (.lst (ok.sub _ _ e1))
  case klst a vs ds e1 e2 =>
    subst e
    rcases sqL_mono ok.sub e1 with (z | ⟨o, z⟩) | ⟨o, its, n, z, z2, _⟩
    · exact .base (.lst z)
    · exact .base (.frz z)
    · exact .kList z z2
  case tup a vs ds e1 e2 =>
    subst e
    rcases sqT_mono ok.sub e1 with (z | ⟨o, z⟩) | ⟨o, its, n, z, z2, _⟩
    · exact .base (.tup z)
    · exact .fTuple z
    · exact .kTuple z z2
  case ref a i e1 =>
    split at e
    · next xs e2 =>
      cases e
      obtain ⟨_, o, e3, e4⟩ := ok.cel i a _ e1 e2
      cases o <;> simp [CRel] at e4
      exact .base (.lst e3)
    · next xs e2 =>
      cases e
      obtain ⟨_, o, e3, e4⟩ := ok.cel i a _ e1 e2
      cases o <;> simp [CRel] at e4
      exact .base (.dK e3)
    · cases e
def isiB (a b : String) : Bool := decide (a = b) || (decide (a = "bool") && decide (b = "int"))
def tyNs : List String := ["NoneType", "bool", "int", "str", "list", "tuple", "dict"]
def clNs : List String := ["bool", "int", "str", "list", "tuple", "dict"]
theorem isi_tab : ∀ a ∈ tyNs, ∀ b ∈ clNs, kitB a b = some (isiB a b) := by decide +kernel
def dIsi : List D → Hap → Option D := fun ds h => match ds with
  | [d, .ty n] => if n ∈ clNs then (tyD d h).map fun t => .bl (isiB t n) else none
  | _ => none
theorem tyD_in {d : D} {h : Hap} {n : String} (e : tyD d h = some n) : n ∈ tyNs := by
  unfold tyD at e
  split at e <;> (try split at e) <;> simp [tyNs] at e ⊢ <;> simp [← e]
theorem s_isi {K : PySem.W.Frag} : CallS K (rIsi K) dIsi := by
  intro w H h xs ds d Q ok vr e q
  unfold dIsi at e
  split at e
  · next d0 n =>
    obtain ⟨x, y, rfl, r1, r2⟩ := vrs2 vr
    cases r2
    split at e
    · next hn =>
      obtain ⟨t, e1, e2⟩ := Option.map_eq_some_iff.mp e
      subst e2
      exact ⟨x, .ty n, .type t, .type n, _, rfl, .ty n, tyX_ok ok r1 e1, kit_ty (isi_tab t (tyD_in e1) n hn), q _ _ _ (Step.refl _ _) ok (.bl _)⟩
    · cases e
  · cases e
/-- tuple(..), list(..) of a list or tuple -/
def dTupleOf : List D → Hap → Option D := fun ds h => match ds with
  | [d] => (getQ d h).map .tup
  | _ => none
theorem s_tupleOf {K : PySem.W.Frag} : CallS K (fun xs H Q => ∃ p ys, xs = [.ref p] ∧ ((SqL K H p ys ∧ ∀ l, H l = none → Q (.ref l) (upd H l (.tup ys))) ∨ (SqT K H p ys ∧ Q (.ref p) H))) dTupleOf := by
  intro w H h xs ds d Q ok vr e q
  unfold dTupleOf at e
  split at e
  · next d0 =>
    obtain ⟨x, rfl, r⟩ := vrs1 vr
    obtain ⟨ys, e1, e2⟩ := Option.map_eq_some_iff.mp e
    subst e2
    unfold getQ at e1
    split at e1
    · cases e1
      obtain ⟨p, vs, rfl, h1, r1⟩ := getT_ok ok r rfl
      exact ⟨p, vs, rfl, .inr ⟨h1, q _ _ _ (Step.refl _ _) ok r⟩⟩
    · obtain ⟨p, vs, rfl, h1, r1⟩ := getL_ok ok r e1
      exact ⟨p, vs, rfl, .inl ⟨h1, fun l hl => q _ _ _ (ok.alloc hl).2 (ok.alloc hl).1 (vr_tup ok hl r1)⟩⟩
  · cases e
def dListOf : List D → Hap → Option D := fun ds h => match ds with
  | [d] => (getQ d h).map .lst
  | _ => none
theorem s_listOf {K : PySem.W.Frag} : CallS K (fun xs H Q => ∃ p ys, xs = [.ref p] ∧ (SqL K H p ys ∨ SqT K H p ys) ∧ ∀ l, H l = none → Q (.ref l) (upd H l (.lst ys))) dListOf := by
  intro w H h xs ds d Q ok vr e q
  unfold dListOf at e
  split at e
  · next d0 =>
    obtain ⟨x, rfl, r⟩ := vrs1 vr
    obtain ⟨ys, e1, e2⟩ := Option.map_eq_some_iff.mp e
    subst e2
    obtain ⟨p, vs, rfl, h1, r1⟩ := getQ_ok ok r e1
    exact ⟨p, vs, rfl, h1, fun l hl => q _ _ _ (ok.alloc hl).2 (ok.alloc hl).1 (vr_lst ok hl r1)⟩
  · cases e

/-! ### methods of built-in types -/
def isT (T : String) (d : D) (h : Hap) : Bool := match d with
  | .str _ => T == "str"
  | .int _ => T == "int"
  | .lst _ => T == "list"
  | .klst _ => T == "list"
  | .ref i => match h[i]? with
    | some (.lst _) => T == "list"
    | some (.dct _) => T == "dict"
    | _ => false
  | _ => false
theorem isT_ok {K : PySem.W.Frag} {w : Wd} {H : Hp} {h : Hap} {T : String} {x : V} {d : D} (ok : Ok K w H h) (r : VR K w x d) (e : isT T d h = true) : tyV K T x H := by
  cases r <;> simp [isT] at e
  case int i => exact e
  case str i => exact e
  case lst a vs ds e1 e2 => exact .inl ⟨e, vs, .inl (.inl (ok.sub _ _ e1))⟩
  case klst a vs ds e1 e2 => exact .inl ⟨e, vs, sqL_mono ok.sub e1⟩
  case ref a i e1 =>
    split at e
    · next xs e2 =>
      obtain ⟨_, o, e3, e4⟩ := ok.cel i a _ e1 e2
      cases o <;> simp [CRel] at e4
      exact .inl ⟨by simpa using e, _, .inl (.inl e3)⟩
    · next xs e2 =>
      obtain ⟨_, o, e3, e4⟩ := ok.cel i a _ e1 e2
      cases o <;> simp [CRel] at e4
      exact .inr (.inr (.inl ⟨by simpa using e, .inl ⟨_, e3⟩⟩))
    · cases e
/-- what a method does: it may change the cells -/
def MetS (K : PySem.W.Frag) (gm : Str → Option Value) (r : V → List V → Hp → VK → Prop) (g : D → List D → Hap → Rs D) : Prop := ∀ (w : Wd) (H : Hp) (h : Hap) (x : V) (xs : List V) (a : D) (ds : List D) (Q : VK) (E : XK), Ok K w H h → VR K w x a → VRs K w xs ds →
  Post K gm (VR K) w H (g a ds h) Q E → r x xs H Q
def mMet (T : String) (g : D → List D → Hap → Rs D) (o : ME) (a : MA) : ME := fun env h => (o env h).bind fun x h1 => if isT T x h1 = true then (a env h1).bind fun xs h2 => g x xs h2 else .stuck
theorem t_met {K : PySem.W.Frag} {W : WX} {T : String} {r : V → List V → Hp → VK → Prop} {g : D → List D → Hap → Rs D} {o : ME} {a : MA} (s : MetS K gm r g) : ∀ σ H Q, tE K gm W (mMet T g o a) σ H Q → tBM K T r (tE K gm W o) (tA K gm W a) σ H Q := fun σ H Q ⟨w, env, h, ok, er, p⟩ =>
  ⟨w, env, h, ok, er, Post.bind p fun x da w1 H1 h1 s1 ok1 v1 p1 => by
    by_cases c : isT T da h1 = true
    · rw [if_pos c] at p1
      exact ⟨isT_ok ok1 v1 c, w1, env, h1, ok1, er.mono s1, Post.bind p1 fun xs ds w2 H2 h2 s2 ok2 v2 p2 => s w2 H2 h2 x xs da ds Q _ ok2 (v1.mono s2) v2 p2⟩
    · rw [if_neg c] at p1
      exact p1.elim⟩
theorem t_met0 {K : PySem.W.Frag} {W : WX} {T : String} {r : V → List V → Hp → VK → Prop} {g : D → List D → Hap → Rs D} {o : ME} (s : MetS K gm r g) : ∀ σ H Q, tE K gm W (mMet T g o mNil) σ H Q → tBM0 K T r (tE K gm W o) σ H Q := fun σ H Q ⟨w, env, h, ok, er, p⟩ =>
  ⟨w, env, h, ok, er, Post.bind p fun x da w1 H1 h1 s1 ok1 v1 p1 => by
    by_cases c : isT T da h1 = true
    · rw [if_pos c] at p1
      exact ⟨isT_ok ok1 v1 c, s w1 H1 h1 x [] da [] Q _ ok1 v1 .nil p1⟩
    · rw [if_neg c] at p1
      exact p1.elim⟩
section
variable {X : Cx} {W : WX} {T id : String} {name : Str} {apos cpos : Pos} {o e : Expr} {es : List Expr} {r : V → List V → Hp → VK → Prop} {g : D → List D → Hap → Rs D} {mo : ME} {ma : MA}
theorem e_met (pa : PlainAttrs T) (slot : Slot T name id) (hty : typeOf (.builtin id) = pure (.type "method_descriptor")) (hm : MtR X id r) (s : MetS X.K X.mg r g) (ho : PE X o (tE X.K X.mg W mo)) (ha : PA X (e :: es) (tA X.K X.mg W ma))
    (hbase : attributeBase o name X.env (eval o X.env) = eval o X.env := by rfl)
    (hfew : ((backTo cpos (starEach (e :: es) X.env)).all (fun x => !x.1) && (backToKw cpos (keywordEach [] X.env)).all (fun x => x.1.isSome)
      && decide ((e :: es).length + ([] : List Keyword).length + (if ([] : List Keyword).isEmpty then 0 else 1) < 30)) = true := by rfl)
    (hline : (apos.endLine == cpos.line) = true := by rfl) (hs : starEach (e :: es) X.env = (false, eval e X.env) :: starEach es X.env := by rfl) (hplain : (backTo cpos (starEach es X.env)).any (·.1) = false := by rfl) :
    PE X (.Call (.Attribute o name apos) (e :: es) [] cpos) (tE X.K X.mg W (mMet T g mo ma)) := PE.imp (pe_bm pa slot hty hm ho ha hbase hfew hline hs hplain) (t_met s)
theorem e_met0 (pa : PlainAttrs T) (slot : Slot T name id) (hty : typeOf (.builtin id) = pure (.type "method_descriptor")) (hm : MtR X id r) (s : MetS X.K X.mg r g) (ho : PE X o (tE X.K X.mg W mo))
    (hbase : attributeBase o name X.env (eval o X.env) = eval o X.env := by rfl) (hline : (apos.endLine == cpos.line) = true := by rfl) : PE X (.Call (.Attribute o name apos) [] [] cpos) (tE X.K X.mg W (mMet T g mo mNil)) := PE.imp (pe_bm0 pa slot hty hm ho hbase hline) (t_met0 s)
end
/-- methods that leave the cells -/
def gP (f : D → List D → Hap → Option D) : D → List D → Hap → Rs D := fun a ds h => ofO (f a ds h) h
def PMetS (K : PySem.W.Frag) (r : V → List V → Hp → VK → Prop) (f : D → List D → Hap → Option D) : Prop := ∀ (w : Wd) (H : Hp) (h : Hap) (x : V) (xs : List V) (a : D) (ds : List D) (d : D) (Q : VK), Ok K w H h → VR K w x a → VRs K w xs ds → f a ds h = some d →
  (∀ v w' H', Step w H w' H' → Ok K w' H' h → VR K w' v d → Q v H') → r x xs H Q
theorem PMetS.met {K : PySem.W.Frag} {r : V → List V → Hp → VK → Prop} {f : D → List D → Hap → Option D} (s : PMetS K r f) : MetS K gm r (gP f) := fun w H h x xs a ds Q E ok r1 r2 p => by
  obtain ⟨d, e, q⟩ := ofO_post p
  exact s w H h x xs a ds d Q ok r1 r2 e q
/-- text methods with a text -/
def fSS (f : Str → Str → D) : D → List D → Hap → Option D := fun a ds _ => match a, ds with
  | .str a, [.str b] => some (f a b)
  | _, _ => none
theorem s_SS {K : PySem.W.Frag} {g : Str → Str → V} {f : Str → Str → D} (hf : ∀ w a b, VR K w (g a b) (f a b)) : PMetS K (fun x xs H Q => ∃ a b, x = .str a ∧ xs = [.str b] ∧ Q (g a b) H) (fSS f) := by
  intro w H h x xs a ds d Q ok r1 r2 e q
  unfold fSS at e
  split at e <;> cases e
  obtain ⟨y, rfl, r3⟩ := vrs1 r2
  cases r1
  cases r3
  exact ⟨_, _, rfl, rfl, q _ _ _ (Step.refl _ _) ok (hf _ _ _)⟩
def dStarts := fSS fun a b => .bl (Txt.startswith a b)
def dEnds := fSS fun a b => .bl (Txt.endswith a b)
def dFind := fSS fun a b => .int (Txt.find a b)
def dCount := fSS fun a b => .int (Txt.count a b)
theorem s_starts {K : PySem.W.Frag} : PMetS K (fun x xs H Q => ∃ a b, x = .str a ∧ xs = [.str b] ∧ Q (.bl (Txt.startswith a b)) H) dStarts := s_SS fun _ _ _ => .bl _
theorem s_ends {K : PySem.W.Frag} : PMetS K (fun x xs H Q => ∃ a b, x = .str a ∧ xs = [.str b] ∧ Q (.bl (Txt.endswith a b)) H) dEnds := s_SS fun _ _ _ => .bl _
theorem s_find {K : PySem.W.Frag} : PMetS K (fun x xs H Q => ∃ a b, x = .str a ∧ xs = [.str b] ∧ Q (.int (Txt.find a b)) H) dFind := s_SS fun _ _ _ => .int _
theorem s_count {K : PySem.W.Frag} : PMetS K (fun x xs H Q => ∃ a b, x = .str a ∧ xs = [.str b] ∧ Q (.int (Txt.count a b)) H) dCount := s_SS fun _ _ _ => .int _
def dFind3 : D → List D → Hap → Option D := fun a ds _ => match a, ds with
  | .str a, [.str b, .int i] => some (.int (Txt.find3 a b i))
  | _, _ => none
theorem s_find3 {K : PySem.W.Frag} : PMetS K (fun x xs H Q => ∃ (a b : Str) (i : Int), x = .str a ∧ xs = [.str b, .int i] ∧ Q (.int (Txt.find3 a b i)) H) dFind3 := by
  intro w H h x xs a ds d Q ok r1 r2 e q
  unfold dFind3 at e
  split at e <;> cases e
  obtain ⟨y, z, rfl, r3, r4⟩ := vrs2 r2
  cases r1
  cases r3
  cases r4
  exact ⟨_, _, _, rfl, rfl, q _ _ _ (Step.refl _ _) ok (.int _)⟩
def dSplit : D → List D → Hap → Option D := fun a ds _ => match a, ds with
  | .str a, [.str b] => if (b.length == 0) = false ∧ a.length + 2 ≤ sizeLine then some (.lst ((Txt.split a b).map .str)) else none
  | _, _ => none
theorem s_split {K : PySem.W.Frag} : PMetS K (fun x xs H Q => ∃ a b, x = .str a ∧ xs = [.str b] ∧ (b.length == 0) = false ∧ a.length + 2 ≤ sizeLine ∧ rNewStrs (Txt.split a b) H Q) dSplit := by
  intro w H h x xs a ds d Q ok r1 r2 e q
  unfold dSplit at e
  split at e
  · split at e
    · next c =>
      cases e
      obtain ⟨y, rfl, r3⟩ := vrs1 r2
      cases r1
      cases r3
      exact ⟨_, _, rfl, rfl, c.1, c.2, fun p hp => q _ _ _ (ok.alloc hp).2 (ok.alloc hp).1 (vr_lst ok hp VRs.of_strs)⟩
    · cases e
  · cases e
def strsOf : List D → Option (List Str)
  | [] => some []
  | .str b :: ds => (strsOf ds).map (b :: ·)
  | _ => none
theorem strsOf_is : ∀ {ds : List D} {bs : List Str}, strsOf ds = some bs → ds = bs.map D.str
  | [], bs, e => by simp [strsOf] at e; subst e; rfl
  | .str b :: ds, bs, e => by
    simp [strsOf] at e
    obtain ⟨c, e1, rfl⟩ := e
    rw [strsOf_is e1]
    rfl
  | .non :: _, _, e => by simp [strsOf] at e
  | .int _ :: _, _, e => by simp [strsOf] at e
  | .bl _ :: _, _, e => by simp [strsOf] at e
  | .lst _ :: _, _, e => by simp [strsOf] at e
  | .klst _ :: _, _, e => by simp [strsOf] at e
  | .tup _ :: _, _, e => by simp [strsOf] at e
  | .ref _ :: _, _, e => by simp [strsOf] at e
  | .ty _ :: _, _, e => by simp [strsOf] at e
def dJoin : D → List D → Hap → Option D := fun a ds h => match a, ds with
  | .str a, [d] => ((getQ d h).bind strsOf).bind fun ys => if (ys.map (·.length)).sum + ys.length * a.length ≤ 16777216 then some (.str (Txt.join a ys)) else none
  | _, _ => none
theorem s_join {K : PySem.W.Frag} : PMetS K (fun x xs H Q => ∃ a p, ∃ ys : List Str, x = .str a ∧ xs = [.ref p] ∧ (SqL K H p (ys.map V.str) ∨ SqT K H p (ys.map V.str)) ∧
    (ys.map (·.length)).sum + ys.length * a.length ≤ 16777216 ∧ Q (.str (Txt.join a ys)) H) dJoin := by
  intro w H h x xs a ds d Q ok r1 r2 e q
  unfold dJoin at e
  split at e
  · obtain ⟨y, rfl, r3⟩ := vrs1 r2
    obtain ⟨ys, e1, e2⟩ := Option.bind_eq_some_iff.mp e
    obtain ⟨dd, e3, e4⟩ := Option.bind_eq_some_iff.mp e1
    split at e2
    · next c =>
      cases e2
      have q1 := strsOf_is e4
      subst q1
      obtain ⟨p, vs, rfl, h1, r5⟩ := getQ_ok ok r3 e3
      have q2 := r5.strs
      subst q2
      cases r1
      exact ⟨_, p, ys, rfl, rfl, h1, c, q _ _ _ (Step.refl _ _) ok (.str _)⟩
    · cases e2
  · cases e
/-- xs.append(y), xs a cell -/
def gAppend : D → List D → Hap → Rs D := fun a ds h => match a, ds with
  | .ref i, [y] => match h[i]? with
    | some (.lst xs) => if xs.length < sizeLine then .ok .non (h.set i (.lst (xs ++ [y]))) else .stuck
    | _ => .stuck
  | _, _ => .stuck
theorem s_append {K : PySem.W.Frag} : MetS K gm rAppend gAppend := by
  intro w H h x xs a ds Q E ok r1 r2 p
  unfold gAppend at p
  split at p
  · next i y =>
    split at p
    · next zs e1 =>
      split at p
      · next hl =>
        obtain ⟨v, rfl, r3⟩ := vrs1 r2
        cases r1
        next a e2 =>
        obtain ⟨_, o, e3, e4⟩ := ok.cel i a _ e2 e1
        cases o <;> simp [CRel] at e4
        next vs =>
        have q := ok.write (o := .lst (vs ++ [v])) (c := .lst (zs ++ [y])) e2 (VRs.append e4 (.cons r3 .nil))
        exact ⟨a, vs, v, rfl, rfl, e3, by rw [e4.length]; exact hl, p _ _ _ q.2 q.1 .non⟩
      · exact p.elim
    · exact p.elim
  · exact p.elim
end
end Vi

set_option Elab.async false
set_option linter.all false
set_option autoImplicit false
set_option maxRecDepth 100000
set_option maxHeartbeats 2000000
namespace Vi
open PySem PySem.Spec PyProof.Rows L2
variable {gm : Str → Option Value}
open scoped Classical
noncomputable section

/-! ### own defs -/
/-- a def's promise: what m does on data -/
def spM (K : PySem.W.Frag) (gm : Str → Option Value) (n : Nat) (m : MF) : Sp := fun vs H Q E => vs.length = n ∧ ∃ w ds h, Ok K w H h ∧ VRs K w vs ds ∧ Post K gm (VR K) w H (m ds h) Q E
def mCall (m : MF) (a : MA) : ME := fun env h => (a env h).bind m
theorem t_call {K : PySem.W.Frag} {W : WX} {m : MF} {n : Nat} {a : MA} {te : TA} (ht : ∀ σ H Q, tA K gm W a σ H Q → te σ H Q) (hn : ∀ env h ds h', a env h = .ok ds h' → ds.length = n) : ∀ σ H Q, tE K gm W (mCall m a) σ H Q → tCallS (spM K gm n m) (WE W) te σ H Q := fun σ H Q ⟨w, env, h, ok, er, p⟩ => by
  refine ht _ _ _ ⟨w, env, h, ok, er, ?_⟩
  have hn' := hn env h
  unfold mCall at p
  revert p hn'
  cases a env h with
  | ok ds h1 => exact fun p hn' v w' H' s ok' vr => ⟨by rw [vr.length]; exact hn' ds h1 rfl, w', ds, h1, ok', vr, Post.step s p⟩
  | err c fs h1 => exact fun p _ => p
  | stuck => exact fun p _ => p
theorem mCons_len {m : ME} {r : MA} {n : Nat} (hr : ∀ env h ds h', r env h = .ok ds h' → ds.length = n) : ∀ env h ds h', mCons m r env h = .ok ds h' → ds.length = n + 1 := by
  intro env h ds h' e
  unfold mCons at e
  cases q : m env h with
  | ok x h1 =>
    rw [q] at e
    have e : (r env h1).bind (fun xs h2 => Rs.ok (x :: xs) h2) = Rs.ok ds h' := e
    cases q2 : r env h1 with
    | ok xs h2 =>
      rw [q2] at e
      cases e
      rw [List.length_cons, hr _ _ _ _ q2]
    | err c fs h2 => rw [q2] at e; cases e
    | stuck => rw [q2] at e; cases e
  | err c fs h1 => rw [q] at e; cases e
  | stuck => rw [q] at e; cases e
theorem mNil_len : ∀ env h ds h', mNil env h = .ok ds h' → ds.length = 0 := by
  intro env h ds h' e
  cases e
  rfl
section
variable {X : Cx} {W : WX} {k n : Nat} {f C : Addr} {fd : FuncData} {ps : List Str} {x : Str} {p pos : Pos} {e : Expr} {es : List Expr} {m : MF} {ma : MA}
theorem e_call (F : FnOk X.prog X.w X.K X.mg X.base (L2N.CX X.prog X.w) k f fd ps (spM X.K X.mg n m)) (hr : Room k X.A) (hm : X.mg x = some (.ref f)) (hk : PySem.W.keepIn X.K (.ref f) = true) (hb : Binds X.K fd ps []) (tk : L2N.Takes X W)
    (ha : PA X (e :: es) (tA X.K X.mg W ma)) (hn : ∀ env h ds h', ma env h = .ok ds h' → ds.length = n) (hg : Gl X x) (hdb : (x == ("__debug__" : Str)) = false := by decide) (he : starEach (e :: es) X.env = (false, eval e X.env) :: starEach es X.env := by rfl) (hpl : (backTo pos (starEach es X.env)).any (·.1) = false := by rfl) :
    PE X (.Call (.Name x p) (e :: es) [] pos) (tE X.K X.mg W (mCall m ma)) :=
  PE.imp (pe_callS F hr hg hm hk hb (fun σ => L2N.passAt tk σ) ha hdb he hpl) (t_call (fun _ _ _ h => h) hn)
end

/-! ### statements -/
def mSeq (a b : MS) : MS := fun env h => match a env h with
  | .nx e h1 => b e h1
  | r => r
def mNext : MS := fun env h => .nx env h
def mBrk : MS := fun env h => .bk env h
def mCnt : MS := fun env h => .ct env h
def mExp (a : ME) : MS := fun env h => RsS (a env h) env fun _ h1 => .nx env h1
def mRet (a : ME) : MS := fun env h => RsS (a env h) env fun d h1 => .rt d h1
def mRetN : MS := fun _ h => .rt .non h
def mIfS (c : MT) (a b : MS) : MS := fun env h => RsS (c env h) env fun t h1 => if t = true then a env h1 else b env h1
section
variable {X : Cx} {W : WX} {st : Stmt} {sts rest : List Stmt} {a b : MS} {e : Expr} {pos : Pos}
theorem ss_cons (h1 : PS X st (tS X.K X.mg W a)) (h2 : PSs X rest (tS X.K X.mg W b)) : PSs X (st :: rest) (tS X.K X.mg W (mSeq a b)) := PSs.imp (pss_cons h1 h2) fun D σ H ⟨w, env, h, ok, er, p⟩ => by
  refine ⟨w, env, h, ok, er, ?_⟩
  unfold mSeq at p
  revert p
  cases a env h with
  | nx e1 h1 => exact fun p σ' w' H' s ok' er' => ⟨w', e1, h1, ok', er', PostS.step s p⟩
  | bk e1 h1 => exact fun p => p
  | ct e1 h1 => exact fun p => p
  | rt e1 h1 => exact fun p => p
  | er c fs e1 h1 => exact fun p => p
  | stuck => exact fun p => p
theorem ss_one (h1 : PS X st (tS X.K X.mg W a)) : PSs X [st] (tS X.K X.mg W a) := PSs.imp (pss_one h1) fun _ _ _ h => h
theorem ss_nil : PSs X [] (tS X.K X.mg W mNext) := PSs.imp pss_nil fun D σ H ⟨w, env, h, ok, er, p⟩ => p σ w H (Step.refl _ _) ok er
theorem s_pass : PS X (.Pass pos) (tS X.K X.mg W mNext) := PS.imp ps_pass fun D σ H ⟨w, env, h, ok, er, p⟩ => p σ w H (Step.refl _ _) ok er
theorem s_brk : PS X (.Break pos) (tS X.K X.mg W mBrk) := PS.imp ps_break fun D σ H ⟨w, env, h, ok, er, p⟩ => p σ w H (Step.refl _ _) ok er
theorem s_cnt : PS X (.Continue pos) (tS X.K X.mg W mCnt) := PS.imp ps_continue fun D σ H ⟨w, env, h, ok, er, p⟩ => p σ w H (Step.refl _ _) ok er
theorem s_doc {x : Str} {j : Nat} {pos' : Pos} : PS X (.Expr (.Constant (.str x) j pos') pos) (tS X.K X.mg W mNext) := PS.imp ps_doc fun D σ H ⟨w, env, h, ok, er, p⟩ => p σ w H (Step.refl _ _) ok er
theorem s_exp {m : ME} (he : PE X e (tE X.K X.mg W m)) (hs : swapsWith e none pos.line X.env = pure false := by rfl) : PS X (.Expr e pos) (tS X.K X.mg W (mExp m)) := PS.imp (ps_expr he hs) fun D σ H ⟨w, env, h, ok, er, p⟩ =>
  ⟨w, env, h, ok, er, PostS.bind er p fun v a w' H' h' s ok' vr p' => p' σ w' H' (Step.refl _ _) ok' (er.mono s)⟩
theorem s_ret {m : ME} (he : PE X e (tE X.K X.mg W m)) : PS X (.Return (some e) pos) (tS X.K X.mg W (mRet m)) := PS.imp (ps_ret he) fun D σ H ⟨w, env, h, ok, er, p⟩ =>
  ⟨w, env, h, ok, er, PostS.bind er p fun v a w' H' h' s ok' vr p' => p' v w' H' (Step.refl _ _) ok' vr⟩
theorem s_retN : PS X (.Return none pos) (tS X.K X.mg W mRetN) := PS.imp ps_retN fun D σ H ⟨w, env, h, ok, er, p⟩ => p _ w H (Step.refl _ _) ok .non
theorem s_if {c : Expr} {ss us : List Stmt} {mc : MT} (hc : PT X c (tT X.K X.mg W mc)) (ha : PSs X ss (tS X.K X.mg W a)) (hb : PSs X us (tS X.K X.mg W b)) : PS X (.If c ss us pos) (tS X.K X.mg W (mIfS mc a b)) := PS.imp (ps_if hc ha hb) fun D σ H ⟨w, env, h, ok, er, p⟩ =>
  ⟨w, env, h, ok, er, PostS.bind er p fun v t w' H' h' s ok' vr p' => by
    cases vr
    cases v with
    | true => exact ⟨w', env, h', ok', er.mono s, p'⟩
    | false => exact ⟨w', env, h', ok', er.mono s, p'⟩⟩

/-! ### targets -/
abbrev MG := D → Env → Hap → Option Env
/-- vs: the slots it stores to -/
def TgS (K : PySem.W.Frag) (g : TG) (b : MG) (vs : List Nat) : Prop := ∀ (w : Wd) (H : Hp) (h : Hap) (x : V) (d : D) (σ : L2.St) (env env' : Env) (Q : L2.St → Hp → Prop), Ok K w H h → VR K w x d → EnvR K w σ env → b d env h = some env' →
  (∀ σ', EnvR K w σ' env' → (∀ us : List Nat, (∀ i ∈ vs, i ∈ us) → wipe σ' us = wipe σ us) → Q σ' H) → g x σ H Q
theorem EnvR.set {K : PySem.W.Frag} {w : Wd} {σ : L2.St} {env : Env} {x : V} {d : D} (er : EnvR K w σ env) (vr : VR K w x d) (i : Nat) : EnvR K w (σ.set i (some x)) (env.set i (some d)) := ⟨by rw [List.length_set, List.length_set]; exact er.len, fun j d' e => by
  by_cases q : i = j
  · subst q
    by_cases hl : i < env.length
    · rw [List.getElem?_set_self hl] at e
      cases e
      exact ⟨x, List.getElem?_set_self (by rw [er.len]; exact hl), vr⟩
    · rw [List.getElem?_eq_none (by rw [List.length_set]; omega)] at e
      cases e
  · rw [List.getElem?_set_ne q] at e ⊢
    exact er.get j d' e⟩
theorem wipe_set {σ : L2.St} {i : Nat} {x : Option V} : ∀ {us : List Nat}, i ∈ us → wipe (σ.set i x) us = wipe σ us
  | [], m => absurd m (by simp)
  | u :: us, m => by
    unfold wipe
    by_cases q : i ∈ us
    · rw [wipe_set q]
    · have e : i = u := by
        simp at m
        rcases m with z | z
        · exact z
        · exact absurd z q
      subst e
      clear m
      have : ∀ vs : List Nat, i ∉ vs → wipe (σ.set i x) vs = (wipe σ vs).set i x := by
        intro vs
        induction vs with
        | nil => intro _; rfl
        | cons v vs ih =>
          intro n
          simp at n
          unfold wipe
          rw [ih n.2, List.set_comm _ _ n.1]
      rw [this us q]
      simp
def gNm (i : Nat) : MG := fun d env _ => some (env.set i (some d))
theorem g_nm {K : PySem.W.Frag} (i : Nat) : TgS K (gName i) (gNm i) [i] := fun w H h x d σ env env' Q ok vr er e q => by
  cases e
  exact q _ (er.set vr i) fun us m => wipe_set (m i (by simp))
abbrev MGs := List D → Env → Hap → Option Env
def TgsS (K : PySem.W.Frag) (g : TGs) (b : MGs) (vs : List Nat) : Prop := ∀ (w : Wd) (H : Hp) (h : Hap) (x : List V) (d : List D) (σ : L2.St) (env env' : Env) (Q : L2.St → Hp → Prop), Ok K w H h → VRs K w x d → EnvR K w σ env → b d env h = some env' →
  (∀ σ', EnvR K w σ' env' → (∀ us : List Nat, (∀ i ∈ vs, i ∈ us) → wipe σ' us = wipe σ us) → Q σ' H) → g x σ H Q
def gsNil : MGs := fun ds env _ => match ds with
  | [] => some env
  | _ => none
def gsCons (a : MG) (b : MGs) : MGs := fun ds env h => match ds with
  | d :: ds => (a d env h).bind fun e1 => b ds e1 h
  | _ => none
theorem gs_nil {K : PySem.W.Frag} : TgsS K gNil gsNil [] := fun w H h x d σ env env' Q ok vr er e q => by
  unfold gsNil at e
  split at e <;> cases e
  cases vr
  exact ⟨rfl, q σ er fun _ _ => rfl⟩
theorem gs_cons {K : PySem.W.Frag} {t : TG} {u : TGs} {a : MG} {b : MGs} {vs us : List Nat} (h1 : TgS K t a vs) (h2 : TgsS K u b us) : TgsS K (gCons t u) (gsCons a b) (vs ++ us) := fun w H h x d σ env env' Q ok vr er e q => by
  unfold gsCons at e
  split at e
  · next d ds =>
    obtain ⟨e1, q1, q2⟩ := Option.bind_eq_some_iff.mp e
    cases vr with
    | cons r1 r2 =>
      exact ⟨_, _, rfl, h1 w H h _ d σ env e1 _ ok r1 er q1 fun σ1 er1 w1 => h2 w H h _ ds σ1 e1 env' _ ok r2 er1 q2 fun σ2 er2 w2 => q σ2 er2 fun zs m => by rw [w2 zs fun i hi => m i (List.mem_append_right _ hi), w1 zs fun i hi => m i (List.mem_append_left _ hi)]⟩
  · cases e
def gTp (n : Nat) (b : MGs) : MG := fun d env h => match d with
  | .tup ds => if ds.length = n then b ds env h else none
  | _ => none
theorem g_tp {K : PySem.W.Frag} {n : Nat} {t : TGs} {b : MGs} {vs : List Nat} (s : TgsS K t b vs) : TgS K (gTup K n t) (gTp n b) vs := fun w H h x d σ env env' Q ok vr er e q => by
  unfold gTp at e
  split at e
  · next ds =>
    split at e
    · next hl =>
      obtain ⟨p, zs, rfl, h1, r1⟩ := getT_ok ok vr rfl
      exact ⟨p, zs, rfl, h1, by rw [r1.length]; exact hl, s w H h zs ds σ env env' Q ok r1 er e q⟩
    · cases e
  · cases e
def mAsg (a : ME) (g : MG) : MS := fun env h => RsS (a env h) env fun d h1 => match g d env h1 with
  | some e1 => .nx e1 h1
  | none => .stuck
theorem t_asg {K : PySem.W.Frag} {te : TE} {m : ME} {g : TG} {b : MG} {vs : List Nat} (ht : ∀ σ H Q, tE K gm W m σ H Q → te σ H Q) (hg : TgS K g b vs) : ∀ D σ H, tS K gm W (mAsg m b) D σ H → tAsg te g D σ H := fun D σ H ⟨w, env, h, ok, er, p⟩ =>
  ht _ _ _ ⟨w, env, h, ok, er, PostS.bind er p fun v d w' H' h' s ok' vr p' => by
    cases q : b d env h' with
    | none => rw [q] at p'; exact p'.elim
    | some e1 =>
      rw [q] at p'
      exact hg w' H' h' v d σ env e1 _ ok' vr (er.mono s) q fun σ' er' _ => p' σ' w' H' (Step.refl _ _) ok' er'⟩
theorem s_set {i : Nat} {x : Str} {m : ME} {pos' : Pos} (hN : X.N.Nodup) (hi : X.N[i]? = some x) (hx : Loc X.env.scope x) (he : PE X e (tE X.K X.mg W m)) (hs : swapsWith e (some (.Name x pos')) pos.line X.env = pure false := by rfl) (hf : X.fn x = true ∨ X.env.scope.names.lookup x = some .local := by first | exact .inl rfl | exact .inr rfl | assumption) :
    PS X (.Assign [.Name x pos'] e pos) (tS X.K X.mg W (mAsg m (gNm i))) := PS.imp (ps_set hN hi hx he hs hf) (t_asg (fun _ _ _ h => h) (g_nm i))
theorem s_asg {tg : Expr} {m : ME} {g : TG} {b : MG} {vs : List Nat} (hg : PG X tg g) (hb : TgS X.K g b vs) (he : PE X e (tE X.K X.mg W m)) (hs : swapsWithSole [tg] e pos.line X.env = pure false := by rfl) (hw : swappedStores [tg] e X.env = pure none := by rfl)
    (h1 : (assignEach [tg] X.env).map (·.2) = [assign tg X.env] := by rfl) : PS X (.Assign [tg] e pos) (tS X.K X.mg W (mAsg m b)) := PS.imp (ps_asg he hg hs hw h1) (t_asg (fun _ _ _ h => h) hb)
/-- x += e, x an int or a text -/
def mAug (i : Nat) (g : D → D → Hap → Option D) (a : ME) : MS := fun env h => match env[i]? with
  | some (some d0) => RsS (a env h) env fun d h1 => match g d0 d h1 with
    | some d2 => .nx (env.set i (some d2)) h1
    | none => .stuck
  | _ => .stuck
def IpS (K : PySem.W.Frag) (t : TIp) (g : D → D → Hap → Option D) : Prop := OpS K t g
theorem s_aug {i : Nat} {x : Str} {m : ME} {op : Operator} {ti : TIp} {g : D → D → Hap → Option D} {pos' : Pos} (hN : X.N.Nodup) (hi : X.N[i]? = some x) (hx : Loc X.env.scope x) (ho : PIp X op ti) (hg : IpS X.K ti g) (he : PE X e (tE X.K X.mg W m)) (hf : X.fn x = true ∨ X.env.scope.names.lookup x = some .local := by first | exact .inl rfl | exact .inr rfl | assumption) :
    PS X (.AugAssign (.Name x pos') op e pos) (tS X.K X.mg W (mAug i g m)) := PS.imp (ps_aug hN hi hx he ho hf) fun D σ H ⟨w, env, h, ok, er, p⟩ => by
  unfold mAug at p
  split at p
  · next d0 e0 =>
    obtain ⟨v0, e1, r0⟩ := er.get i d0 e0
    refine ⟨v0, e1, w, env, h, ok, er, PostS.bind er p fun v d w' H' h' s ok' vr p' => ?_⟩
    cases q : g d0 d h' with
    | none => rw [q] at p'; exact p'.elim
    | some d2 =>
      rw [q] at p'
      exact hg w' H' h' v0 v d0 d d2 _ ok' (r0.mono s) vr q fun z w2 H2 s2 ok2 r2 => p' _ w2 H2 s2 ok2 (((er.mono s).mono s2).set r2 i)
  · exact p.elim
theorem ip_I {f : Int → Int → Int} {g : D → D → Hap → Option D} {K : PySem.W.Frag} (hf : ∀ a b h d, g a b h = some d → ∃ i j, a = .int i ∧ b = .int j ∧ d = .int (f i j)) : IpS K (ipI f) g := by
  intro w H h x y a b d Q ok vx vy e q
  obtain ⟨i, j, rfl, rfl, rfl⟩ := hf a b h d e
  cases vx
  cases vy
  exact ⟨i, j, rfl, rfl, q _ _ _ (Step.refl _ _) ok (.int _)⟩
def dAddI : D → D → Hap → Option D := fun a b _ => match a, b with
  | .int i, .int j => some (.int (i + j))
  | _, _ => none
theorem i_add {K : PySem.W.Frag} : IpS K (ipI fun i j => i + j) dAddI := ip_I fun a b h d e => by
  unfold dAddI at e
  split at e <;> cases e
  exact ⟨_, _, rfl, rfl, rfl⟩
theorem i_sub {K : PySem.W.Frag} : IpS K (ipI fun i j => i - j) dSub := ip_I fun a b h d e => by
  unfold dSub at e
  split at e <;> cases e
  exact ⟨_, _, rfl, rfl, rfl⟩
/-- o[i] = e, o a cell -/
def sIx : D → D → D → Hap → Option Hap := fun o i v h => match o, i with
  | .ref j, .int k => match h[j]? with
    | some (.lst xs) => (ixN xs.length k).map fun n => h.set j (.lst (xs.set n v))
    | _ => none
  | _, _ => none
def mSub (a o i : ME) : MS := fun env h => RsS (a env h) env fun d h1 => RsS (o env h1) env fun od h2 => RsS (i env h2) env fun id h3 => match sIx od id d h3 with
  | some h4 => .nx env h4
  | none => .stuck
theorem s_sub1 {o i : Expr} {ma mo mi : ME} {pos' : Pos} (he : PE X e (tE X.K X.mg W ma)) (ho : PE X o (tE X.K X.mg W mo)) (hi : PE X i (tE X.K X.mg W mi)) (hs : swapsWithSole [.Subscript o i pos'] e pos.line X.env = pure false := by rfl) (hw : swappedStores [.Subscript o i pos'] e X.env = pure none := by rfl)
    (h1 : (assignEach [.Subscript o i pos'] X.env).map (·.2) = [assign (.Subscript o i pos') X.env] := by rfl)
    (ha : ∀ v, assign (.Subscript o i pos') X.env v = (do
      let ov ← holding [v] (eval o X.env)
      let iv ← holding [v, ov] (eval i X.env)
      standAt pos'
      holding [v, ov, iv] (setItem ov iv v)
      release [v, ov, iv] []) := by intro _; rfl) : PS X (.Assign [.Subscript o i pos'] e pos) (tS X.K X.mg W (mSub ma mo mi)) :=
  PS.imp (ps_asg he (pg_sub ho hi set_list ha) hs hw h1) fun D σ H ⟨w, env, h, ok, er, p⟩ => ⟨w, env, h, ok, er, PostS.bind er p fun v d w1 H1 h1 s1 ok1 v1 p1 =>
    ⟨w1, env, h1, ok1, er.mono s1, PostS.bind (er.mono s1) p1 fun vo od w2 H2 h2 s2 ok2 v2 p2 => ⟨w2, env, h2, ok2, (er.mono s1).mono s2, PostS.bind ((er.mono s1).mono s2) p2 fun vi id w3 H3 h3 s3 ok3 v3 p3 => by
      cases q : sIx od id d h3 with
      | none => rw [q] at p3; exact p3.elim
      | some h4 =>
        rw [q] at p3
        unfold sIx at q
        split at q
        · next j k =>
          split at q
          · next xs e1 =>
            obtain ⟨n, e2, rfl⟩ := Option.map_eq_some_iff.mp q
            cases v3
            cases v2 with
            | ref e3 =>
              next a =>
              have e3' := s3.ix e3
              obtain ⟨_, ob, e4, e5⟩ := ok3.cel j a _ e3' e1
              cases ob <;> simp [CRel] at e5
              next vs =>
              have z := ok3.write (o := .lst (vs.set n v)) (c := .lst (xs.set n d)) e3' (VRs.set ((v1.mono s2).mono s3) n e5)
              exact ⟨a, vs, k, n, rfl, rfl, e4, by rw [e5.length]; exact e2, p3 σ _ _ z.2 z.1 ((((er.mono s1).mono s2).mono s3).mono z.2)⟩
          · cases q
        · cases q⟩⟩⟩
end

/-! ### what is walked -/
/-- J gives the items xs, one by one, while V holds of the world and gd of the cells -/
structure Wk (K : PySem.W.Frag) (J : It) (xs : List D) (V : Wd → Prop) (gd : Hap → Prop) : Prop where
  up : ∀ w H w' H', Step w H w' H' → V w → V w'
  goes : ∀ w H h i, Ok K w H h → V w → gd h → i < xs.length → J.go i H
  stops : ∀ w H h, Ok K w H h → V w → gd h → J.stop xs.length H
  yields : ∀ w H h i y H', Ok K w H h → V w → gd h → i < xs.length → J.yld i H y H' → H' = H ∧ ∃ e, xs[i]? = some e ∧ VR K w y e
def VI (K : PySem.W.Frag) (w : Wd) (J : It) (s : List D × (Hap → Prop)) : Prop := ∃ V : Wd → Prop, V w ∧ Wk K J s.1 V s.2
abbrev MI := Env → Hap → Rs (List D × (Hap → Prop))
def tI (K : PySem.W.Frag) (gm : Str → Option Value) (W : WX) (m : MI) : TI := fun σ H R => ∃ w env h, Ok K w H h ∧ EnvR K w σ env ∧ Post K gm (VI K) w H (m env h) R fun c d H' => W c d σ H'
theorem PI.imp {X : Cx} {tg e : Expr} {t t' : TI} (p : PI X tg e t) (i : ∀ σ H Q, t' σ H Q → t σ H Q) : PI X tg e t' := ⟨fun pins s σ H Q I h => p.run pins s σ H Q I (i _ _ _ h)⟩
theorem PI.or {X : Cx} {tg e : Expr} {t t' : TI} (p : PI X tg e t) (p' : PI X tg e t') : PI X tg e fun σ H R => t σ H R ∨ t' σ H R := ⟨fun pins s σ H Q I h => by
  rcases h with h | h
  · exact p.run pins s σ H Q I h
  · exact p'.run pins s σ H Q I h⟩
def mI (m : ME) : MI := fun env h => (m env h).bind fun d h1 => match seqOf d h1 with
  | some xs => .ok (xs, fun h => seqOf d h = some xs) h1
  | none => .stuck
theorem wk_list {K : PySem.W.Frag} {a : Addr} {d : D} {xs : List D} (hd : ∀ h ys, seqOf d h = some ys → getL d h = some ys) : Wk K (Itl K a) xs (fun w => VR K w (.ref a) d) (fun h => seqOf d h = some xs) where
  up := fun w H w' H' s r => r.mono s
  goes := fun w H h i ok r g hi => by
    obtain ⟨b, vs, e, h1, r1⟩ := getL_ok ok r (hd h xs g)
    cases e
    exact ⟨vs, vs[i]'(by rw [r1.length]; exact hi), h1, by simp [r1.length, hi]⟩
  stops := fun w H h ok r g => by
    obtain ⟨b, vs, e, h1, r1⟩ := getL_ok ok r (hd h xs g)
    cases e
    exact ⟨vs, h1, by rw [r1.length]; exact Nat.le_refl _⟩
  yields := fun w H h i y H' ok r g hi q => by
    obtain ⟨b, vs, e, h1, r1⟩ := getL_ok ok r (hd h xs g)
    cases e
    exact ⟨q.1, r1.get (q.2 vs h1)⟩
theorem wk_tup {K : PySem.W.Frag} {a : Addr} {xs : List D} : Wk K (Itt K a) xs (fun w => VR K w (.ref a) (.tup xs)) (fun h => seqOf (.tup xs) h = some xs) where
  up := fun w H w' H' s r => r.mono s
  goes := fun w H h i ok r g hi => by
    obtain ⟨b, vs, e, h1, r1⟩ := getT_ok ok r rfl
    cases e
    exact ⟨vs, vs[i]'(by rw [r1.length]; exact hi), h1, by simp [r1.length, hi]⟩
  stops := fun w H h ok r g => by
    obtain ⟨b, vs, e, h1, r1⟩ := getT_ok ok r rfl
    cases e
    exact ⟨vs, h1, by rw [r1.length]; exact Nat.le_refl _⟩
  yields := fun w H h i y H' ok r g hi q => by
    obtain ⟨b, vs, e, h1, r1⟩ := getT_ok ok r rfl
    cases e
    exact ⟨q.1, r1.get (q.2 vs h1)⟩
theorem wk_str {K : PySem.W.Frag} {z : Str} {gd : Hap → Prop} : Wk K (Its z) (z.cps.toList.map fun c => .str (ch c)) (fun _ => True) gd where
  up := fun _ _ _ _ _ _ => trivial
  goes := fun w H h i ok r g hi => by
    have q : i < z.cps.size := by simpa using hi
    exact q
  stops := fun w H h ok r g => by show z.cps.size ≤ _; simp
  yields := fun w H h i y H' ok r g hi q => by
    obtain ⟨e, c, h1, rfl⟩ := q
    refine ⟨e, .str (ch c), ?_, .str _⟩
    rw [List.getElem?_map]
    have : z.cps.toList[i]? = some c := by rw [Array.getElem?_toList]; exact h1
    rw [this]
    rfl
theorem i_any {X : Cx} {W : WX} {tg e : Expr} {m : ME} (he : PE X e (tE X.K X.mg W m)) : PI X tg e (tI X.K X.mg W (mI m)) := PI.imp (PI.or (pi_list he) (PI.or (pi_tup he) (pi_str he))) fun σ H Q ⟨w, env, h, ok, er, p⟩ => by
  have base : ∀ R : VK, (∀ v a w' H' h', Step w H w' H' → Ok X.K w' H' h' → m env h = .ok a h' → VR X.K w' v a → Post X.K X.mg (VI X.K) w' H' (match seqOf a h' with
      | some xs => .ok (xs, fun h => seqOf a h = some xs) h'
      | none => .stuck) Q (fun c d H' => W c d σ H') → R v H') → tE X.K X.mg W m σ H R := by
    intro R k
    refine ⟨w, env, h, ok, er, ?_⟩
    unfold mI at p
    revert p k
    cases m env h with
    | ok a h1 => exact fun p k v w' H' s ok' vr => k v a w' H' h1 s ok' rfl vr (Post.step s p)
    | err c fs h1 => exact fun p _ => p
    | stuck => exact fun p _ => p
  by_cases c1 : ∃ xs h1, m env h = .ok (.tup xs) h1
  · obtain ⟨xs, h1, e1⟩ := c1
    refine .inr (.inl (base _ fun v a w' H' h' s ok' e2 vr p' => ?_))
    rw [e1] at e2
    cases e2
    obtain ⟨b, vs, rfl, q1, q2⟩ := getT_ok ok' vr rfl
    exact ⟨b, rfl, ⟨vs, q1⟩, p'.ok ok' ⟨_, vr, wk_tup⟩⟩
  · by_cases c2 : ∃ z h1, m env h = .ok (.str z) h1
    · obtain ⟨z, h1, e1⟩ := c2
      refine .inr (.inr (base _ fun v a w' H' h' s ok' e2 vr p' => ?_))
      rw [e1] at e2
      cases e2
      cases vr
      exact ⟨z, rfl, p'.ok ok' ⟨_, trivial, wk_str⟩⟩
    · refine .inl (base _ fun v a w' H' h' s ok' e2 vr p' => ?_)
      have hd : ∀ h ys, seqOf a h = some ys → getL a h = some ys := by
        intro h ys e
        unfold seqOf at e
        split at e
        · exact absurd ⟨_, _, e2⟩ c2
        · exact absurd ⟨_, _, e2⟩ c1
        · exact e
      cases e3 : seqOf a h' with
      | none => rw [e3] at p'; exact p'.elim
      | some xs =>
        rw [e3] at p'
        obtain ⟨b, vs, rfl, q1, q2⟩ := getL_ok ok' vr (hd _ _ e3)
        exact ⟨b, rfl, ⟨vs, q1⟩, p'.ok ok' ⟨_, vr, wk_list hd⟩⟩
/-- range -/
def rngL (lo : Int) (n : Nat) : List D := (List.range n).map fun (i : Nat) => .int (lo + (i : Int))
theorem wk_rng {K : PySem.W.Frag} {lo : Int} {n : Nat} : Wk K (Itr lo n) (rngL lo n) (fun _ => True) (fun _ => True) where
  up := fun _ _ _ _ _ _ => trivial
  goes := fun w H h i ok r g hi => by
    have : i < n := by simpa [rngL] using hi
    exact this
  stops := fun w H h ok r g => by show n ≤ _; simp [rngL]
  yields := fun w H h i y H' ok r g hi q => by
    obtain ⟨e, rfl⟩ := q
    have hi' : i < n := by simpa [rngL] using hi
    exact ⟨e, .int (lo + i), by simp [rngL, hi'], .int _⟩
def rng1 : List D → Option (List D × (Hap → Prop))
  | [.int j] => if -(2 ^ 62) ≤ j ∧ j < 2 ^ 62 then some (rngL 0 j.toNat, fun _ => True) else none
  | _ => none
def rng2 : List D → Option (List D × (Hap → Prop))
  | [.int i, .int j] => if -(2 ^ 62) ≤ i ∧ i < 2 ^ 62 ∧ -(2 ^ 62) ≤ j ∧ j < 2 ^ 62 then some (rngL i (j - i).toNat, fun _ => True) else none
  | _ => none
def mRng (f : List D → Option (List D × (Hap → Prop))) (a : MA) : MI := fun env h => (a env h).bind fun xs h1 => ofO (f xs) h1
section
variable {X : Cx} {W : WX} {tg a b : Expr} {p pos : Pos} {m : MA}
theorem i_rng1 (hm : X.mg "range" = none) (hg : Gl X "range") (ha : PA X [a] (tA X.K X.mg W m)) (hs : starEach [a] X.env = [(false, eval a X.env)] := by rfl) : PI X tg (.Call (.Name "range" p) [a] [] pos) (tI X.K X.mg W (mRng rng1 m)) :=
  PI.imp (pi_range1 hg hm ha hs) fun σ H Q ⟨w, env, h, ok, er, p⟩ => ⟨w, env, h, ok, er, Post.bind p fun vs ds w' H' h' s ok' vr p' => by
    obtain ⟨d, e, q⟩ := ofO_post p'
    unfold rng1 at e
    split at e
    · split at e
      · next c =>
        cases e
        obtain ⟨x, rfl, r⟩ := vrs1 vr
        cases r
        exact ⟨_, rfl, c.1, c.2, q _ _ _ (Step.refl _ _) ok' ⟨_, trivial, wk_rng⟩⟩
      · cases e
    · cases e⟩
theorem i_rng2 (hm : X.mg "range" = none) (hg : Gl X "range") (ha : PA X [a, b] (tA X.K X.mg W m)) (hs : starEach [a, b] X.env = [(false, eval a X.env), (false, eval b X.env)] := by rfl) (hs2 : starEach [b] X.env = [(false, eval b X.env)] := by rfl) : PI X tg (.Call (.Name "range" p) [a, b] [] pos) (tI X.K X.mg W (mRng rng2 m)) :=
  PI.imp (pi_range2 hg hm ha hs hs2) fun σ H Q ⟨w, env, h, ok, er, p⟩ => ⟨w, env, h, ok, er, Post.bind p fun vs ds w' H' h' s ok' vr p' => by
    obtain ⟨d, e, q⟩ := ofO_post p'
    unfold rng2 at e
    split at e
    · split at e
      · next c =>
        cases e
        obtain ⟨x, y, rfl, r, r2⟩ := vrs2 vr
        cases r
        cases r2
        exact ⟨_, _, rfl, c, q _ _ _ (Step.refl _ _) ok' ⟨_, trivial, wk_rng⟩⟩
      · cases e
    · cases e⟩
end

/-! ### for -/
@[reducible] def RS.turn (r : RS) (k : Env → Hap → RS) : RS := match r with
  | .nx e h => k e h
  | .ct e h => k e h
  | .bk e h => .nx e h
  | .rt d h => .rt d h
  | .er c fs e h => .er c fs e h
  | .stuck => .stuck
def forL (gd : Hap → Prop) (g : MG) (b : MS) : List D → Env → Hap → RS
  | [], env, h => if gd h then .nx env h else .stuck
  | x :: xs, env, h => if gd h then match g x env h with
    | some e1 => (b e1 h).turn (forL gd g b xs)
    | none => .stuck
    else .stuck
def mFor (s : MI) (g : MG) (b : MS) : MS := fun env h => RsS (s env h) env fun s h1 => forL s.2 g b s.1 env h1
theorem t_for {K : PySem.W.Frag} {W : WX} {wi : TI} {s : MI} {g : TG} {mg : MG} {vs : List Nat} {tb : TS} {b : MS} (hi : ∀ σ H Q, tI K gm W s σ H Q → wi σ H Q) (hg : TgS K g mg vs) (hb : ∀ D σ H, tS K gm W b D σ H → tb D σ H) : ∀ D σ H, tS K gm W (mFor s mg b) D σ H → tFor wi g tb D σ H := fun D σ H ⟨w, env, h, ok, er, p⟩ => by
  refine hi _ _ _ ⟨w, env, h, ok, er, PostS.bind er p fun J s w' H' h' st ok' vr p' => ?_⟩
  obtain ⟨xs, gd⟩ := s
  obtain ⟨V, v0, wk⟩ := vr
  refine ⟨fun i m σ H => m = xs.length - i ∧ i ≤ xs.length ∧ ∃ w env h, Ok K w H h ∧ EnvR K w σ env ∧ V w ∧ PostS K gm w H (forL gd mg b (xs.drop i) env h) D W, ⟨xs.length, by simp, Nat.zero_le _, w', env, h', ok', er.mono st, v0, by simpa using p'⟩, ?_⟩
  rintro i m σ1 H1 ⟨rfl, hi, w1, env1, h1, ok1, er1, v1, p1⟩
  by_cases hl : i < xs.length
  · rw [List.drop_eq_getElem_cons hl] at p1
    unfold forL at p1
    by_cases g0 : gd h1
    · rw [if_pos g0] at p1
      refine .inr ⟨wk.goes w1 H1 h1 i ok1 v1 g0 hl, fun σ H => i + 1 ≤ xs.length ∧ ∃ w env h, Ok K w H h ∧ EnvR K w σ env ∧ V w ∧ PostS K gm w H (forL gd mg b (xs.drop (i + 1)) env h) D W, fun σ' H' z => ⟨xs.length - (i + 1), by omega, rfl, z⟩, fun y H' z => ?_⟩
      obtain ⟨rfl, e, e1, r1⟩ := wk.yields w1 H1 h1 i y H' ok1 v1 g0 hl z
      have e2 : xs[i] = e := by
        rw [List.getElem?_eq_getElem hl] at e1
        exact Option.some.inj e1
      rw [e2] at p1
      cases q : mg e env1 h1 with
      | none => rw [q] at p1; exact p1.elim
      | some e3 =>
        rw [q] at p1
        refine hg w1 _ h1 y e σ1 env1 e3 _ ok1 r1 er1 q fun σ2 er2 _ => hb _ _ _ ⟨w1, e3, h1, ok1, er2, ?_⟩
        have p2 : PostS K gm w1 _ ((b e3 h1).turn (forL gd mg b (xs.drop (i + 1)))) D W := p1
        clear p1
        revert p2
        cases q2 : b e3 h1 with
        | nx e4 h4 => exact fun p1 σ3 w3 H3 s3 ok3 er3 => ⟨hl, w3, e4, h4, ok3, er3, wk.up _ _ _ _ s3 v1, PostS.step s3 p1⟩
        | ct e4 h4 => exact fun p1 σ3 w3 H3 s3 ok3 er3 => ⟨hl, w3, e4, h4, ok3, er3, wk.up _ _ _ _ s3 v1, PostS.step s3 p1⟩
        | bk e4 h4 => exact fun p1 => p1
        | rt d h4 => exact fun p1 => p1
        | er c fs e4 h4 => exact fun p1 => p1
        | stuck => exact fun p1 => p1
    · rw [if_neg g0] at p1
      exact p1.elim
  · have e : i = xs.length := by omega
    subst e
    rw [List.drop_length] at p1
    unfold forL at p1
    by_cases g0 : gd h1
    · rw [if_pos g0] at p1
      exact .inl ⟨wk.stops w1 H1 h1 ok1 v1 g0, p1 _ _ _ (Step.refl _ _) ok1 er1⟩
    · rw [if_neg g0] at p1
      exact p1.elim
theorem s_for {X : Cx} {W : WX} {tg iter : Expr} {body : List Stmt} {s : MI} {g : TG} {mg : MG} {vs : List Nat} {b : MS} {pos : Pos} (hp : PassesOwn (model X.prog X.w) X.A X.env X.xe) (hc : X.calm = true) (hg : PG X tg g) (hb : TgS X.K g mg vs) (hi : PI X tg iter (tI X.K X.mg W s)) (hbd : PSs X body (tS X.K X.mg W b))
    (hs : ∀ x, foldedSetIterable iter X.env x = pure x := by intro _; rfl) : PS X (.For tg iter body [] pos) (tS X.K X.mg W (mFor s mg b)) := PS.imp (ps_for hp hc hi hg hbd hs) (t_for (fun _ _ _ h => h) hb fun _ _ _ h => h)

/-! ### while -/
def whL (c : MT) (b : MS) : Nat → Env → Hap → RS
  | 0, _, _ => .stuck
  | n + 1, env, h => RsS (c env h) env fun t h1 => if t = true then (b env h1).turn (whL c b n) else .nx env h1
def mWh (n : Nat) (c : MT) (b : MS) : MS := whL c b n
theorem s_wh {X : Cx} {W : WX} (n : Nat) {c : Expr} {body : List Stmt} {mc : MT} {b : MS} {pos : Pos} (hp : PassesOwn (model X.prog X.w) X.A X.env X.xe) (hc : PT X c (tT X.K X.mg W mc)) (hb : PSs X body (tS X.K X.mg W b)) : PS X (.While c body [] pos) (tS X.K X.mg W (mWh n mc b)) := PS.imp (ps_while hp hc hb) fun D σ H ⟨w, env, h, ok, er, p⟩ => by
  refine ⟨fun m σ H => ∃ w env h, Ok X.K w H h ∧ EnvR X.K w σ env ∧ PostS X.K X.mg w H (whL mc b m env h) D W, ⟨n, w, env, h, ok, er, p⟩, ?_⟩
  rintro m σ1 H1 ⟨w1, env1, h1, ok1, er1, p1⟩
  cases m with
  | zero => exact p1.elim
  | succ m =>
    unfold whL at p1
    refine ⟨w1, env1, h1, ok1, er1, PostS.bind er1 p1 fun v t w2 H2 h2 s2 ok2 vr p2 => ?_⟩
    cases vr
    cases v with
    | false => exact p2 σ1 w2 H2 (Step.refl _ _) ok2 (er1.mono s2)
    | true =>
      refine ⟨fun σ H => ∃ w env h, Ok X.K w H h ∧ EnvR X.K w σ env ∧ PostS X.K X.mg w H (whL mc b m env h) D W, fun σ' H' z => ⟨m, Nat.lt_succ_self m, z⟩, w2, env1, h2, ok2, er1.mono s2, ?_⟩
      rw [if_pos rfl] at p2
      have p3 : PostS X.K X.mg w2 _ ((b env1 h2).turn (whL mc b m)) D W := p2
      clear p2
      revert p3
      cases q2 : b env1 h2 with
      | nx e4 h4 => exact fun p1 σ3 w3 H3 s3 ok3 er3 => ⟨w3, e4, h4, ok3, er3, PostS.step s3 p1⟩
      | ct e4 h4 => exact fun p1 σ3 w3 H3 s3 ok3 er3 => ⟨w3, e4, h4, ok3, er3, PostS.step s3 p1⟩
      | bk e4 h4 => exact fun p1 => p1
      | rt d h4 => exact fun p1 => p1
      | er c fs e4 h4 => exact fun p1 => p1
      | stuck => exact fun p1 => p1

/-! ### comprehensions -/
@[reducible] def Rs.bindN {α β : Type} (r : Rs α) (f : α → Hap → Rs β) : Rs β := match r with
  | .ok a h => f a h
  | _ => .stuck
def wipeE (env : Env) : List Nat → Env
  | [] => env
  | v :: vs => (wipeE env vs).set v none
def compL (gd : Hap → Prop) (vs : List Nat) (g : MG) (c : MT) (e : ME) (env : Env) : List D → Hap → List D → Rs (List D)
  | [], h, acc => if gd h then .ok acc h else .stuck
  | x :: xs, h, acc => if gd h then match g x (wipeE env vs) h with
    | some e1 => (c e1 h).bindN fun t h1 => if t = true then (e e1 h1).bindN fun y h2 => if acc.length < sizeLine then compL gd vs g c e env xs h2 (acc ++ [y]) else .stuck
      else compL gd vs g c e env xs h1 acc
    | none => .stuck
    else .stuck
def mComp (s : MI) (vs : List Nat) (g : MG) (c : MT) (e : ME) : ME := fun env h => (s env h).bind fun s h1 => (compL s.2 vs g c e env s.1 h1 []).bindN fun ys h2 => .ok (.lst ys) h2
def mYes : MT := fun _ h => .ok true h
abbrev W0 : WX := fun _ _ _ _ => False
theorem wipeE_env {K : PySem.W.Frag} {w : Wd} {σ : L2.St} {env : Env} (er : EnvR K w σ env) : ∀ vs : List Nat, EnvR K w (wipe σ vs) (wipeE env vs)
  | [] => er
  | v :: vs => by
    have q := wipeE_env er vs
    unfold wipe wipeE
    refine ⟨by rw [List.length_set, List.length_set]; exact q.len, fun j d e => ?_⟩
    by_cases z : v = j
    · subst z
      by_cases hl : v < (wipeE env vs).length
      · rw [List.getElem?_set_self hl] at e; cases e
      · rw [List.getElem?_eq_none (by rw [List.length_set]; omega)] at e; cases e
    · rw [List.getElem?_set_ne z] at e ⊢
      exact q.get j d e
theorem Post.bindN {K : PySem.W.Frag} {α β γ δ : Type} {VA : Wd → β → α → Prop} {r : Rs α} {f : α → Hap → Rs γ} {w : Wd} {H : Hp} {Q1 : β → Hp → Prop} {E : XK} (hn : r.bindN f ≠ .stuck) (k : ∀ v a w' H' h', r = .ok a h' → Step w H w' H' → Ok K w' H' h' → VA w' v a → Q1 v H') : Post K gm VA w H r Q1 E := by
  cases r with
  | ok a h => exact fun v w' H' s ok vr => k v a w' H' h rfl s ok vr
  | err c fs h => exact absurd rfl hn
  | stuck => exact absurd rfl hn
theorem Step.put {w w' : Wd} {H H' : Hp} {p : Addr} {o : HO} (s : Step w H w' H') (hp : H p = none) : Step w H w' (upd H' p o) := ⟨s.f, s.r, fun a u n e => by
    rw [upd_ne (ne_of_none e hp)]
    exact s.keep a u n e, fun a e => by
    by_cases q : a = p
    · subst q; exact absurd hp e
    · rw [upd_ne q]; exact s.dom a e, s.new, s.nf⟩
theorem t_comp {K : PySem.W.Frag} {W : WX} {wi : TI} {s : MI} {g : TG} {mg : MG} {us vs : List Nat} {tt : TT} {te : TE} {c : MT} {e : ME} (hi : ∀ σ H Q, tI K gm W s σ H Q → wi σ H Q) (hg : TgS K g mg us) (hu : ∀ i ∈ us, i ∈ vs) (ht : ∀ σ H Q, tT K gm W0 c σ H Q → tt σ H Q) (he : ∀ σ H Q, tE K gm W0 e σ H Q → te σ H Q) :
    ∀ σ H Q, tE K gm W (mComp s vs mg c e) σ H Q → tLc wi g tt te vs σ H Q := fun σ H Q ⟨w, env, h, ok, er, p⟩ => by
  refine hi _ _ _ ⟨w, env, h, ok, er, Post.bind p fun J s w1 H1 h1 s1 ok1 vr p1 => fun Da hD => ?_⟩
  obtain ⟨xs, gd⟩ := s
  obtain ⟨V, v0, wk⟩ := vr
  have er1 := er.mono s1
  obtain ⟨f0, r0⟩ := ok1.fresh hD
  generalize hr : compL gd vs mg c e env xs h1 [] = r at p1
  refine ⟨fun i m H => m = xs.length - i ∧ i ≤ xs.length ∧ ∃ w h acc vacc, Ok K w H h ∧ Step w1 H1 w H ∧ V w ∧ H Da = some (.lst vacc) ∧ w.F Da = none ∧ Da ∉ w.ρ ∧ VRs K w vacc acc ∧ compL gd vs mg c e env (xs.drop i) h acc = r,
    ⟨xs.length, by simp, Nat.zero_le _, w1, h1, [], [], ok1.put f0 r0, (Step.refl w1 H1).put hD, v0, upd_same, f0, r0, .nil, by simpa using hr⟩, ?_⟩
  rintro i m H2 ⟨rfl, hi, w2, h2, acc, vacc, ok2, s2, v2, d2, f2, r2, a2, hr2⟩
  have ns : r ≠ .stuck := fun z => by rw [z] at p1; exact p1
  by_cases hl : i < xs.length
  · rw [List.drop_eq_getElem_cons hl] at hr2
    unfold compL at hr2
    by_cases g0 : gd h2
    · rw [if_pos g0] at hr2
      refine .inr ⟨wk.goes w2 H2 h2 i ok2 v2 g0 hl, fun H => i + 1 ≤ xs.length ∧ ∃ w h acc vacc, Ok K w H h ∧ Step w1 H1 w H ∧ V w ∧ H Da = some (.lst vacc) ∧ w.F Da = none ∧ Da ∉ w.ρ ∧ VRs K w vacc acc ∧ compL gd vs mg c e env (xs.drop (i + 1)) h acc = r,
        fun H' z => ⟨xs.length - (i + 1), by omega, rfl, z⟩, fun y H' z => ?_⟩
      obtain ⟨rfl, el, e1, ry⟩ := wk.yields w2 H2 h2 i y H' ok2 v2 g0 hl z
      have e2 : xs[i] = el := by
        rw [List.getElem?_eq_getElem hl] at e1
        exact Option.some.inj e1
      rw [e2] at hr2
      cases q : mg el (wipeE env vs) h2 with
      | none => rw [q] at hr2; exact absurd hr2.symm ns
      | some e3 =>
        rw [q] at hr2
        have hr3 : ((c e3 h2).bindN fun t h1 => if t = true then (e e3 h1).bindN fun y h2 => if acc.length < sizeLine then compL gd vs mg c e env (xs.drop (i + 1)) h2 (acc ++ [y]) else .stuck
          else compL gd vs mg c e env (xs.drop (i + 1)) h1 acc) = r := hr2
        refine hg w2 _ h2 y el (wipe σ vs) (wipeE env vs) e3 _ ok2 ry (wipeE_env (er1.mono s2) vs) q fun σ2 er2 wp => ⟨?_, ht _ _ _ ⟨w2, e3, h2, ok2, er2, Post.bindN (f := fun t h1 => if t = true then (e e3 h1).bindN fun y h2 => if acc.length < sizeLine then compL gd vs mg c e env (xs.drop (i + 1)) h2 (acc ++ [y]) else .stuck
      else compL gd vs mg c e env (xs.drop (i + 1)) h1 acc) (δ := D) (by rw [hr3]; exact ns) fun b t w3 H3 h3 ec s3 ok3 vb => ?_⟩⟩
        · rw [wp vs hu]
          clear wp er2
          have idem : ∀ (us : List Nat) (τ : L2.St), (∀ i ∈ us, i ∈ vs) → wipe (wipe τ us) vs = wipe τ vs := by
            intro us
            induction us with
            | nil => intro τ _; rfl
            | cons u us ih =>
              intro τ hm
              show wipe ((wipe τ us).set u none) vs = _
              rw [wipe_set (hm u List.mem_cons_self), ih τ fun i m => hm i (List.mem_cons_of_mem _ m)]
          exact idem vs σ fun _ m => m
        · cases vb
          have hr4 := hr3
          rw [ec] at hr4
          have keepD : ∀ {w' : Wd} {H' : Hp} {wa : Wd} {Ha : Hp} {va : List L2.V}, Step wa Ha w' H' → Ha Da = some (.lst va) → wa.F Da = none → Da ∉ wa.ρ → H' Da = some (.lst va) ∧ w'.F Da = none ∧ Da ∉ w'.ρ := by
            intro w' H' wa Ha va st da fa ra
            refine ⟨st.keep _ _ ra da, ?_, fun m => ?_⟩
            · cases z : w'.F Da with
              | none => rfl
              | some o =>
                rcases st.nf Da o z with z2 | z2
                · rw [fa] at z2; cases z2
                · rw [da] at z2; cases z2
            · rcases st.new Da m with z2 | z2
              · exact ra z2
              · rw [da] at z2; cases z2
          obtain ⟨d3, f3, r3⟩ := keepD s3 d2 f2 r2
          cases b with
          | false => exact ⟨hl, w3, h3, acc, vacc, ok3, s2.trans s3, wk.up _ _ _ _ s3 v2, d3, f3, r3, a2.mono s3, hr4⟩
          | true =>
            have hr5 : ((e e3 h3).bindN fun y h2 => if acc.length < sizeLine then compL gd vs mg c e env (xs.drop (i + 1)) h2 (acc ++ [y]) else .stuck) = r := hr4
            rw [if_pos rfl]
            refine he _ _ _ ⟨w3, e3, h3, ok3, er2.mono s3, Post.bindN (f := fun y h2 => if acc.length < sizeLine then compL gd vs mg c e env (xs.drop (i + 1)) h2 (acc ++ [y]) else .stuck) (δ := D) (by rw [hr5]; exact ns) fun z dz w4 H4 h4 ee s4 ok4 rz => ?_⟩
            rw [ee] at hr5
            have hr6 : (if acc.length < sizeLine then compL gd vs mg c e env (xs.drop (i + 1)) h4 (acc ++ [dz]) else .stuck) = r := hr5
            obtain ⟨d4, f4, r4⟩ := keepD s4 d3 f3 r3
            by_cases hz : acc.length < sizeLine
            · rw [if_pos hz] at hr6
              exact ⟨vacc, d4, by rw [a2.length]; exact hz, hl, w4, h4, acc ++ [dz], vacc ++ [z], ok4.put f4 r4, ((s2.trans s3).trans s4).put hD, wk.up _ _ _ _ s4 (wk.up _ _ _ _ s3 v2), upd_same, f4, r4, VRs.append ((a2.mono s3).mono s4) (.cons rz .nil), hr6⟩
            · rw [if_neg hz] at hr6
              exact absurd hr6.symm ns
    · rw [if_neg g0] at hr2
      exact absurd hr2.symm ns
  · have ei : i = xs.length := by omega
    subst ei
    rw [List.drop_length] at hr2
    unfold compL at hr2
    by_cases g0 : gd h2
    · rw [if_pos g0] at hr2
      refine .inl ⟨wk.stops w2 H2 h2 ok2 v2 g0, ?_⟩
      rw [← hr2] at p1
      refine p1 (.ref Da) ⟨upd w2.F Da (.lst vacc), w2.ρ⟩ H2 ⟨fun a o x => ?_, s2.r, s2.keep, s2.dom, s2.new, fun a o x => ?_⟩ (ok2.freeze d2 f2 r2) (.lst upd_same ?_)
      · have x2 := s2.f a o x
        show upd w2.F Da _ a = some o
        rw [upd_ne (ne_of_none x2 f2)]
        exact x2
      · have x' : upd w2.F Da (.lst vacc) a = some o := x
        by_cases z : a = Da
        · subst z; exact .inr hD
        · rw [upd_ne z] at x'
          exact s2.nf a o x'
      · refine VRs.mono' (w := w2) (w' := ⟨upd w2.F Da (.lst vacc), w2.ρ⟩) (fun a o x => ?_) (fun _ _ x => x) a2
        show upd w2.F Da _ a = some o
        rw [upd_ne (ne_of_none x f2)]
        exact x
    · rw [if_neg g0] at hr2
      exact absurd hr2.symm ns
section
variable {X : Cx} {W : WX} {elt tg iter : Expr} {ifs : List Expr} {scope : Scope} {own : List (Str × Nat)} {pos spos : Pos} {s : MI} {g : TG} {mg : MG} {us : List Nat} {c : MT} {e : ME}
theorem ts_nil : PTs X [] (tT X.K X.mg W mYes) := by
  refine ⟨fun pins s σ H Q I h => pts_nil.run pins s σ H Q I ?_⟩
  obtain ⟨w, env, h, ok, er, p⟩ := h
  exact p.ok ok rfl
theorem ts_one {t : Expr} {m : MT} (h : PT X t (tT X.K X.mg W m)) : PTs X [t] (tT X.K X.mg W m) := pts_one h
theorem e_comp (hc : X.calm = true) (hN : X.N.Nodup) (ok : BlkOk X.N X.env.scope scope own) (hu : ∀ i ∈ us, i ∈ own.map (·.2)) (hb : TgS X.K g mg us) (hi : PI X tg iter (tI X.K X.mg W s))
    (hg : ∀ (s : Shared) (H : Hp) (C : Addr) (cl : List (Str × Addr)) (fp : List Addr), PG (X.blk s H scope (compEnvC scope cl C X.env) fp) tg g) (ht : ∀ (s : Shared) (H : Hp) (C : Addr) (cl : List (Str × Addr)) (fp : List Addr), PTs (X.blk s H scope (compEnvC scope cl C X.env) fp) ifs (tT X.K X.mg W0 c))
    (he : ∀ (s : Shared) (H : Hp) (C : Addr) (cl : List (Str × Addr)) (fp : List Addr), PE (X.blk s H scope (compEnvC scope cl C X.env) fp) elt (tE X.K X.mg W0 e)) (hs : ∀ x, foldedSetIterable iter X.env x = pure x := by intro _; rfl) :
    PE X (.ListComp elt [⟨tg, iter, ifs, 0⟩] scope pos) (tE X.K X.mg W (mComp s (own.map (·.2)) mg c e)) := PE.imp (pe_lc hc hN hi ok hg ht he hs) (t_comp (fun _ _ _ h => h) hb hu (fun _ _ _ h => h) fun _ _ _ h => h)
theorem s_setC {i : Nat} {y : Str} {py : Pos} (hc : X.calm = true) (hN : X.N.Nodup) (hy : X.N[i]? = some y) (hyl : X.env.scope.names.lookup y = some .local) (hsw : swapsWith (.ListComp elt [⟨tg, iter, ifs, 0⟩] scope pos) (some (.Name y py)) spos.line X.env = pure true)
    (ok : BlkOk X.N X.env.scope scope own) (hu : ∀ i ∈ us, i ∈ own.map (·.2)) (hb : TgS X.K g mg us) (hi : PI X tg iter (tI X.K X.mg W s))
    (hg : ∀ (s : Shared) (H : Hp) (C : Addr) (cl : List (Str × Addr)) (fp : List Addr), PG (X.blk s H scope (compEnvC scope cl C X.env) fp) tg g) (ht : ∀ (s : Shared) (H : Hp) (C : Addr) (cl : List (Str × Addr)) (fp : List Addr), PTs (X.blk s H scope (compEnvC scope cl C X.env) fp) ifs (tT X.K X.mg W0 c))
    (he : ∀ (s : Shared) (H : Hp) (C : Addr) (cl : List (Str × Addr)) (fp : List Addr), PE (X.blk s H scope (compEnvC scope cl C X.env) fp) elt (tE X.K X.mg W0 e)) (hs : ∀ x, foldedSetIterable iter X.env x = pure x := by intro _; rfl) :
    PS X (.Assign [.Name y py] (.ListComp elt [⟨tg, iter, ifs, 0⟩] scope pos) spos) (tS X.K X.mg W (mAsg (mComp s (own.map (·.2)) mg c e) (gNm i))) := PS.imp (ps_setLc hc hN hy hyl hsw hi ok hg ht he hs) (t_asg (t_comp (fun _ _ _ h => h) hb hu (fun _ _ _ h => h) fun _ _ _ h => h) (g_nm i))
end

/-! ### a def -/
def env0 (n : Nat) (ds : List D) : Env := ds.map some ++ List.replicate (n - ds.length) none
def outS (r : RS) : Rs D := match r with
  | .nx _ h => .ok .non h
  | .rt d h => .ok d h
  | .er c fs _ h => .err c fs h
  | _ => .stuck
def run (n : Nat) (b : MS) : MF := fun ds h => outS (b (env0 n ds) h)
theorem env0_ok {K : PySem.W.Frag} {w : Wd} {N : List Str} {vs : List V} {ds : List D} (r : VRs K w vs ds) : EnvR K w (L2.start N vs) (env0 N.length ds) := by
  unfold L2.start env0
  rw [r.length]
  refine ⟨by simp [r.length], fun i d e => ?_⟩
  by_cases hi : i < ds.length
  · rw [List.getElem?_append_left (by simpa using hi)] at e
    rw [List.getElem?_append_left (by simpa [r.length] using hi)]
    rw [List.getElem?_map] at e ⊢
    cases q : ds[i]? with
    | none => rw [q] at e; cases e
    | some y =>
      rw [q] at e
      cases e
      obtain ⟨x, e1, r1⟩ := r.get' q
      exact ⟨x, by rw [e1]; rfl, r1⟩
  · rw [List.getElem?_append_right (by simpa using hi), List.getElem?_replicate] at e
    split at e <;> cases e
section
variable {P : Program} {wd : World} {K : PySem.W.Frag} {mg : Str → Option Value} {base : Heap}
/-- a def by its body, where what it lets out has no context -/
theorem fnOk_of {x qual : Str} {st : Stmt} {f : Addr} {fd : FuncData} {N ps : List Str} {k : Nat} {sp : Sp} (F : Fun K x qual st f fd) (S : FnScope N ps (defScope st)) (hl : ∀ vs H Q E, sp vs H Q E → vs.length = ps.length)
    (hb : ∀ (cdv : Value) (A : Around) (outer : List PySem.Env) (s : Shared) (H : Hp) (vs : List V) (Q : VK) (E : XK), Room k (A.deeper (envOfC qual (defScope st) s.heap.objs.size f cdv)) → sp vs H Q E →
      ∃ t, PSs (cxOf (L2N.CX P wd) P wd K mg base N qual (defScope st) f cdv A outer s H E) (defBody st) t ∧ t ⟨fun _ H' => Q .non H', Q, fun _ _ => False, fun _ _ => False⟩ (L2.start N vs) H) : FnOk P wd K mg base (L2N.CX P wd) (k + 1) f fd ps sp := by
  obtain ⟨c1, c2, c3, c4, c5, c6, c7, c8, c9, rfl, l, hc⟩ := F.ex
  exact fn_of l hc S hl fun A outer s H vs Q E r z => hb c7 A outer s H vs Q E r z
theorem ok_fn {x qual : Str} {st : Stmt} {f : Addr} {fd : FuncData} {N ps : List Str} {k : Nat} {b : MS} (F : Fun K x qual st f fd) (S : FnScope N ps (defScope st))
    (hbody : ∀ (cdv : Value) (A : Around) (outer : List PySem.Env) (s : Shared) (H : Hp) (E : XK), Room k (A.deeper (envOfC qual (defScope st) s.heap.objs.size f cdv)) →
      PSs (cxOf (L2N.CX P wd) P wd K mg base N qual (defScope st) f cdv A outer s H E) (defBody st) (tS K gm (fun cls d _ H => E cls d H) b)) : FnOk P wd K mg base (L2N.CX P wd) (k + 1) f fd ps (spM K gm ps.length (run N.length b)) := by
  refine fnOk_of F S (fun vs H Q E h => h.1) fun cdv A outer s H vs Q E hr h => ?_
  obtain ⟨hl, w, ds, h, ok, r, p⟩ := h
  refine ⟨_, hbody cdv A outer s H E hr, w, env0 N.length ds, h, ok, env0_ok r, ?_⟩
  unfold run at p
  revert p
  cases b (env0 N.length ds) h with
  | nx e1 h1 => exact fun p σ' w' H' s ok' er' => p _ _ _ s ok' .non
  | bk e1 h1 => exact fun p => p.elim
  | ct e1 h1 => exact fun p => p.elim
  | rt e1 h1 => exact fun p => p
  | er c fs e1 h1 => exact fun p cv d σ' w' H' hc s ok' er' x => p cv d w' H' hc s ok' x
  | stuck => exact fun p => p
end
end
end Vi

set_option Elab.async false
set_option linter.all false
set_option autoImplicit false
set_option maxRecDepth 100000
set_option maxHeartbeats 2000000
namespace Vi
open PySem PySem.Spec PyProof.Rows L2
open scoped Classical
noncomputable section
/-! ### the text by places -/
/-- a def of the text as the top has left it -/
def Has (K : PySem.W.Frag) (mg : Str → Option Value) (x : Str) (st : Stmt) (ps : List Str) : Prop := ∃ f fd, Fun K x x st f fd ∧ mg x = some (.ref f) ∧ Binds K fd ps []
/-- .. and what it does -/
structure OkF (P : Program) (wd : World) (K : PySem.W.Frag) (mg : Str → Option Value) (base : Heap) (x : Str) (k n : Nat) (m : MF) : Prop where
  ex : ∃ f fd ps, mg x = some (.ref f) ∧ PySem.W.keepIn K (.ref f) = true ∧ Binds K fd ps [] ∧ FnOk P wd K mg base (L2N.CX P wd) k f fd ps (spM K mg n m)
section
variable {P : Program} {wd : World} {K : PySem.W.Frag} {mg : Str → Option Value} {base : Heap}
theorem OkF.mk' {x : Str} {st : Stmt} {N ps : List Str} {k n z : Nat} {b : MS} {m : MF} (h : Has K mg x st ps) (S : FnScope N ps (defScope st)) (hn : ps.length = n) (hN : N.length = z) (hm : m = run z b)
    (hbody : ∀ (f : Addr) (cdv : Value) (A : Around) (outer : List PySem.Env) (s : Shared) (H : Hp) (E : XK), Room k (A.deeper (envOfC x (defScope st) s.heap.objs.size f cdv)) →
      PSs (cxOf (L2N.CX P wd) P wd K mg base N x (defScope st) f cdv A outer s H E) (defBody st) (tS K mg (fun cls d _ H => E cls d H) b)) : OkF P wd K mg base x (k + 1) n m := by
  obtain ⟨f, fd, F, hf, hb⟩ := h
  subst hn hN hm
  exact ⟨f, fd, ps, hf, F.kp, hb, ok_fn F S (hbody f)⟩
theorem OkF.zero {x : Str} {st : Stmt} {ps : List Str} {k n : Nat} (h : Has K mg x st ps) (hn : ps.length = n) : OkF P wd K mg base x k n (fun _ _ => .stuck) := by
  obtain ⟨f, fd, F, hf, hb⟩ := h
  subst hn
  exact ⟨f, fd, ps, hf, F.kp, hb, fun vs H Q E h => h.1, fun A outer s H args us vs Q E _ _ _ _ ⟨_, _, _, _, _, _, p⟩ => p.elim⟩
theorem okfn' {x : Str} {st : Stmt} {f : Addr} {fd : FuncData} {N ps : List Str} {k n z : Nat} {b : MS} {m : MF} (F : Fun K x x st f fd) (S : FnScope N ps (defScope st)) (hn : ps.length = n) (hN : N.length = z) (hm : m = run z b)
    (hbody : ∀ (cdv : Value) (A : Around) (outer : List PySem.Env) (s : Shared) (H : Hp) (E : XK), Room k (A.deeper (envOfC x (defScope st) s.heap.objs.size f cdv)) →
      PSs (cxOf (L2N.CX P wd) P wd K mg base N x (defScope st) f cdv A outer s H E) (defBody st) (tS K mg (fun cls d _ H => E cls d H) b)) : FnOk P wd K mg base (L2N.CX P wd) (k + 1) f fd ps (spM K mg n m) := by
  subst hn hN hm
  exact ok_fn F S hbody
theorem has_of {h : Heap} (X : K.In h) (G : h.Ns mainGlobals mg) {x : Str} {st : Stmt} {ps : List Str} {f : Addr} {oc : Value} {od an : Option Addr} {osl : Array (Option Value)} {kV doc pm cdv ct : Value}
    (a : PySem.W.nsIn K mainGlobals x = some (some (.ref f))) (l : K.lookup f = some ⟨oc, od, .func (PySem.W.fnOf x x (defArgs st) (defBody st) (defScope st) .none kV doc pm an cdv ct), osl⟩) (c : PySem.W.codeIn K cdv x = true) (k : PySem.W.keepIn K (.ref f) = true)
    (hb : ∀ (kV doc pm : Value) (an : Option Addr) (cdv ct : Value) (us : List Value), us.length = ps.length → bindArgs (PySem.W.fnOf x x (defArgs st) (defBody st) (defScope st) .none kV doc pm an cdv ct) ⟨us, []⟩ = pure (ps.zip us)) : Has K mg x st ps :=
  ⟨f, _, fun_mk l c k, PySem.W.mg_of X G a, (fun_mk l c k).binds hb⟩
end
section
variable {X : Cx} {W : WX} {k j n : Nat} {x : Str} {p pos : Pos} {e : Expr} {es : List Expr} {m : MF} {ma : MA}
theorem e_f (F : OkF X.prog X.w X.K X.mg X.base x k n m) (hr : Room j X.A) (hk : k ≤ j) (tk : L2N.Takes X W) (ha : PA X (e :: es) (tA X.K X.mg W ma)) (hn : ∀ env h ds h', ma env h = .ok ds h' → ds.length = n) (hg : Gl X x) (hdb : (x == ("__debug__" : Str)) = false := by decide)
    (he : starEach (e :: es) X.env = (false, eval e X.env) :: starEach es X.env := by rfl) (hpl : (backTo pos (starEach es X.env)).any (·.1) = false := by rfl) : PE X (.Call (.Name x p) (e :: es) [] pos) (tE X.K X.mg W (mCall m ma)) := by
  obtain ⟨f, fd, ps, hm, kp, hb, F⟩ := F.ex
  exact e_call F (hr.mono hk) hm kp hb tk ha hn hg hdb he hpl
end
theorem bl_len : bootBuiltins "len" = some (.builtin "len") := by decide +kernel
theorem bl_abs : bootBuiltins "abs" = some (.builtin "abs") := by decide +kernel
theorem bl_int : bootBuiltins "int" = some (.type "int") := by decide +kernel
theorem bl_bool : bootBuiltins "bool" = some (.type "bool") := by decide +kernel
theorem bl_str : bootBuiltins "str" = some (.type "str") := by decide +kernel
theorem bl_list : bootBuiltins "list" = some (.type "list") := by decide +kernel
theorem bl_tuple : bootBuiltins "tuple" = some (.type "tuple") := by decide +kernel
theorem bl_dict : bootBuiltins "dict" = some (.type "dict") := by decide +kernel
theorem bl_all : bootBuiltins "all" = some (.builtin "all") := by decide +kernel
theorem bl_any : bootBuiltins "any" = some (.builtin "any") := by decide +kernel
theorem bl_isinstance : bootBuiltins "isinstance" = some (.builtin "isinstance") := by decide +kernel
theorem bl_sorted : bootBuiltins "sorted" = some (.builtin "sorted") := by decide +kernel
theorem bl_ord : bootBuiltins "ord" = some (.builtin "ord") := by decide +kernel
/-! ### the end -/
/-- the law's own promise, from what its body does on data -/
def spL (K : PySem.W.Frag) (n : Nat) (m : MF) : Sp := fun vs H Q _ => vs.length = n ∧ ∃ w ds h d h', Ok K w H h ∧ VRs K w vs ds ∧ m ds h = .ok d h' ∧ ∀ v w' H', Step w H w' H' → Ok K w' H' h' → VR K w' v d → Q v H'
theorem law_walk {l : PySem.W.OpenLaw} {k : Nat} {q : Program} {loose : List Str} {XP : (Str → Option Value) → Heap → Prop} {YP : World → Heap → Prop} {d : DefRec} {K : Params → PySem.W.Frag} {m : MF} {x : Str}
    (hn : l.most = some 63) (hdf : d.params.defaults = []) (hr : Room k callerA) (hY : ∀ (w : World) (h : Heap), YP w h → (K w.params).In h)
    (F : ∀ (w : World) (mg : Str → Option Value) (fa : Addr) (h : Heap), (K w.params).In h → h.Ns mainGlobals mg → mg d.name = some (.ref fa) →
      ∃ fd : FuncData, (∀ (s : Shared) (u : Value), BindsTo s fd ⟨[u], []⟩ [(x, u)]) ∧ ∀ base : Heap, (K w.params).In base → base.Ns mainGlobals mg → FnOk l.prog w (K w.params) mg base (L2N.CX l.prog w) k fa fd [x] (spM (K w.params) mg 1 m))
    (hm : ∀ ns : List Int, ns.length ≤ 63 → ∃ h, m [.klst (ns.map .int)] [] = .ok (.bl true) h) : PySem.W.WalkO q loose XP YP l.row.toRowW d [] (fun f vs => PySem.call f vs) := by
  refine L2.walk_of (n := 63) (k := k) (x := x) (CX := fun w => L2N.CX l.prog w) (sp := fun w => spL (K w.params) 1 m) hn (by decide) hdf hr hY (fun w mg fa h a b c => ?_) (fun w H a ns hl _ hS => ?_) fun w H s e s' z => ?_
  · obtain ⟨fd, h1, h2⟩ := F w mg fa h a b c
    refine ⟨fd, h1, fun base b1 b2 => (h2 base b1 b2).imp fun vs H Q E ⟨hl, w', ds, h, dd, h', ok, r, e, q⟩ => ⟨hl, w', ds, h, ok, r, ?_⟩⟩
    rw [e]
    exact q
  · obtain ⟨h, e⟩ := hm ns hl
    refine ⟨rfl, ⟨H, []⟩, [.klst (ns.map .int)], [], _, _, ⟨fun _ _ e => e, rfl, fun i a c e => by simp at e, by simp⟩, .cons (.klst hS VRs.of_ints) .nil, e, ?_⟩
    intro v w' H' _ _ r
    cases r
    rfl
  · obtain ⟨_, _, _, _, _, _, _, _, _, _, _, _, z⟩ := z
    exact z.elim
end
end Vi

set_option Elab.async false
set_option linter.all false
set_option autoImplicit false
set_option maxRecDepth 100000
set_option maxHeartbeats 2000000
namespace Vi
open PySem PySem.Spec PyProof.Rows L2
open scoped Classical
noncomputable section
/-! ### sorted -/
def pyd (d : D) : PyData := d.py.getD .none
/-- the order of data of one shape -/
def leD : D → D → Bool := PySem.W.dataLe false pyd
structure Srt (xs : List D) : Prop where
  py : ∀ x ∈ xs, x.py = some (pyd x)
  alike : PySem.W.AllAlike (xs.map pyd)
  able : PySem.W.Sortable (xs.map pyd)
  deep : ∀ x ∈ xs, (pyd x).depth ≤ 40
  few : xs.length ≤ sizeLine
def dSorted : List D → Hap → Option D := fun ds h => match ds with
  | [d] => (getL d h).bind fun xs => if Srt xs then some (.lst (xs.mergeSort leD)) else none
  | _ => none
def rSortD (K : PySem.W.Frag) : List V → Hp → VK → Prop := fun vs H Q => ∃ (a : Addr) (xs : List V) (ds : List D), vs = [V.ref a] ∧ SqL K H a xs ∧ xs.length = ds.length ∧ (∀ p ∈ xs.zip ds, Dp K H p.1 (pyd p.2)) ∧ PySem.W.AllAlike (ds.map pyd) ∧ PySem.W.Sortable (ds.map pyd) ∧ (∀ x ∈ ds, (pyd x).depth ≤ 40) ∧ ds.length ≤ sizeLine ∧
  ∀ p, H p = none → Q (.ref p) (upd H p (.lst (((xs.zip ds).mergeSort (PySem.W.dataLe false fun b => pyd b.2)).map Prod.fst)))
theorem each_zip : ∀ {xs : List V} {us : List Value} {ds : List D}, Vals xs us → xs.length = ds.length → PySem.W.EachIs (fun (u : Value) (b : V × D) => RelV b.1 u) us (xs.zip ds)
  | _, _, [], .nil, _ => .nil
  | _, _, _ :: _, .cons r t, h => .cons r (each_zip t (by simpa using h))
theorem vals_of_each : ∀ {us : List Value} {bs : List (V × D)}, PySem.W.EachIs (fun (u : Value) (b : V × D) => RelV b.1 u) us bs → Vals (bs.map Prod.fst) us
  | _, _, .nil => .nil
  | _, _, .cons a b => .cons a (vals_of_each b)
section
variable {X : Cx}
theorem cr_sortD (hu : X.A.units + 64 < cLine) : CallR X (.builtin "sorted") (rSortD X.K) := by
  intro pins s σ H vs us Q I r h
  obtain ⟨a, xs, ds, rfl, hs, hlen, hd, hal, hab, hdp, hfew, q⟩ := h
  obtain ⟨its, rv, hl, hz⟩ := I.list hs
  obtain ⟨u, rfl, ru⟩ := vals1 r
  obtain rfl : u = Value.ref a := ru
  have e := each_zip rv hlen
  have zs : (xs.zip ds).map Prod.snd = ds := by rw [List.map_snd_zip]; omega
  have zm : (xs.zip ds).map (fun b => pyd b.2) = ds.map pyd := by
    conv => rhs; rw [← zs]
    rw [List.map_map]
    rfl
  refine PySem.W.sorted_data (enc := fun b : V × D => pyd b.2) hl.isList e ?_ (by rw [zm]; exact hal) (by rw [zm]; exact hab) ?_ ?_ fun out ho eo => ?_
  · have go : ∀ {us : List Value} {bs : List (V × D)}, PySem.W.EachIs (fun (u : Value) (b : V × D) => RelV b.1 u) us bs → (∀ b ∈ bs, Dp X.K H b.1 (pyd b.2)) → PySem.W.EachIs (fun v b => ∃ as, Reads s.heap v (pyd b.2) as) us bs := by
      intro us bs z
      induction z with
      | nil => exact fun _ => .nil
      | cons r t ih =>
        intro hb
        exact .cons (Dp.reads I _ _ _ (hb _ List.mem_cons_self) r) (ih fun b m => hb b (List.mem_cons_of_mem _ m))
    exact go e hd
  · rw [List.length_zip]
    omega
  · intro b hb
    have m : b.2 ∈ ds := by rw [← zs]; exact List.mem_map.mpr ⟨b, hb, rfl⟩
    have := hdp b.2 m
    omega
  · have vo := vals_of_each eo
    have hf : H (s.heap.objs.size + 1) = none := I.hok.fresh (Nat.le_succ _)
    have lz : (xs.zip ds).length ≤ sizeLine := by rw [List.length_zip]; omega
    refine ⟨.ref (s.heap.objs.size + 1), _, I.laid (t' := s.toks) (fun b o x => ?_) (Nat.le_succ _) ?_, rfl, q _ hf⟩
    · exact sortedAll_old x
    · obtain ⟨n, hn⟩ := sortedAll_at s.heap its (List.toArray out)
      exact ⟨by rw [List.length_map, List.length_mergeSort]; exact lz, out, n, vo, hn⟩
end
theorem VRs.zip_ok {K : PySem.W.Frag} {w : Wd} : ∀ {xs : List V} {ds : List D}, VRs K w xs ds → ∀ p ∈ xs.zip ds, VR K w p.1 p.2
  | _, _, .nil, _, m => by simp at m
  | _, _, .cons a b, p, m => by
    rcases List.mem_cons.mp m with rfl | m
    · exact a
    · exact VRs.zip_ok b p m
theorem vrs_of {K : PySem.W.Frag} {w : Wd} : ∀ {l : List (V × D)}, (∀ p ∈ l, VR K w p.1 p.2) → VRs K w (l.map Prod.fst) (l.map Prod.snd)
  | [], _ => .nil
  | p :: l, h => .cons (h p List.mem_cons_self) (vrs_of fun q m => h q (List.mem_cons_of_mem _ m))
theorem zip_snd {xs : List V} {ds : List D} (h : xs.length = ds.length) : (xs.zip ds).map Prod.snd = ds := by rw [List.map_snd_zip]; omega
theorem sort_vrs {K : PySem.W.Frag} {w : Wd} {xs : List V} {ds : List D} (r : VRs K w xs ds) : VRs K w (((xs.zip ds).mergeSort (PySem.W.dataLe false fun b => pyd b.2)).map Prod.fst) (ds.mergeSort leD) := by
  have e : ((xs.zip ds).mergeSort (PySem.W.dataLe false fun b => pyd b.2)).map Prod.snd = ds.mergeSort leD := by
    have z := PySem.W.sort_maps (r := PySem.W.dataLe false fun b : V × D => pyd b.2) (s := leD) Prod.snd (l := xs.zip ds) fun _ _ _ _ => rfl
    rw [z, zip_snd r.length]
  rw [← e]
  exact vrs_of fun p m => r.zip_ok p (List.mem_mergeSort.mp m)
theorem s_sorted {K : PySem.W.Frag} : CallS K (rSortD K) dSorted := by
  intro w H h xs ds d Q ok vr e q
  unfold dSorted at e
  split at e
  · obtain ⟨x, rfl, r⟩ := vrs1 vr
    obtain ⟨ys, e1, e2⟩ := Option.bind_eq_some_iff.mp e
    split at e2
    · next hS =>
      cases e2
      obtain ⟨p, vs, rfl, h1, r1⟩ := getL_ok ok r e1
      refine ⟨p, vs, ys, rfl, h1, r1.length, fun z m => ?_, hS.alike, hS.able, hS.deep, hS.few, fun l hl => q _ _ _ (ok.alloc hl).2 (ok.alloc hl).1 (vr_lst ok hl (sort_vrs r1))⟩
      have m2 : z.2 ∈ ys := by
        rw [← zip_snd r1.length]
        exact List.mem_map.mpr ⟨z, m, rfl⟩
      exact VR.dp ok.sub (r1.zip_ok z m) (hS.py _ m2)
    · cases e2
  · cases e
end
end Vi

set_option Elab.async false
set_option linter.all false
set_option autoImplicit false
set_option maxRecDepth 100000
set_option maxHeartbeats 2000000
namespace Vi
open PySem PySem.Spec PyProof.Rows L2
open scoped Classical
noncomputable section
variable {gm : Str → Option Value}
/-! ### a comprehension whose list is a cell -/
def mCompC (s : MI) (vs : List Nat) (g : MG) (c : MT) (e : ME) : ME := fun env h => (s env h).bind fun s h1 => (compL s.2 vs g c e env s.1 h1 []).bindN fun ys h2 => .ok (.ref h2.length) (h2 ++ [.lst ys])
/-- an object that was laid ahead becomes a cell -/
theorem Ok.adopt {K : PySem.W.Frag} {w : Wd} {H : Hp} {h : Hap} (ok : Ok K w H h) {p : Addr} {vs : List V} {c : Cel} (hp : H p = some (.lst vs)) (f0 : w.F p = none) (r0 : p ∉ w.ρ) {ds : List D} (hc : VRs K w vs ds) (ec : c = .lst ds := by rfl) : Ok K ⟨w.F, w.ρ ++ [p]⟩ H (h ++ [c]) := by
  subst ec
  have rm : ∀ (i : Nat) (a : Addr), w.ρ[i]? = some a → (w.ρ ++ [p])[i]? = some a := fun i a e => by
    rw [List.getElem?_append_left (List.getElem?_eq_some_iff.mp e).1]
    exact e
  refine ⟨ok.sub, by simp [ok.len], fun j a c' e1 e2 => ?_, ?_⟩
  · by_cases q : j < w.ρ.length
    · have e1' : (w.ρ ++ [p])[j]? = some a := e1
      rw [List.getElem?_append_left q] at e1'
      rw [List.getElem?_append_left (by rw [← ok.len]; exact q)] at e2
      obtain ⟨z, u, e3, e4⟩ := ok.cel j a c' e1' e2
      exact ⟨z, u, e3, CRel.mono' (w := w) (w' := ⟨w.F, w.ρ ++ [p]⟩) (fun _ _ x => x) rm e4⟩
    · have e1' : (w.ρ ++ [p])[j]? = some a := e1
      rw [List.getElem?_append_right (by omega)] at e1'
      rw [List.getElem?_append_right (by rw [← ok.len]; omega)] at e2
      have z : j - w.ρ.length = 0 := by
        have := (List.getElem?_eq_some_iff.mp e1').1
        simp at this
        omega
      rw [z] at e1'
      have z2 : j - h.length = 0 := by rw [← ok.len]; exact z
      rw [z2] at e2
      simp at e1' e2
      subst e1' e2
      exact ⟨f0, _, hp, VRs.mono' (w := w) (w' := ⟨w.F, w.ρ ++ [p]⟩) (fun _ _ x => x) rm hc⟩
  · show (w.ρ ++ [p]).Nodup
    rw [List.nodup_append]
    refine ⟨ok.nd, by simp, fun a m b m2 => ?_⟩
    rw [List.mem_singleton] at m2
    rw [m2]
    exact fun e => r0 (by rw [← e]; exact m)
theorem t_compC {K : PySem.W.Frag} {W : WX} {wi : TI} {s : MI} {g : TG} {mg : MG} {us vs : List Nat} {tt : TT} {te : TE} {c : MT} {e : ME} (hi : ∀ σ H Q, tI K gm W s σ H Q → wi σ H Q) (hg : TgS K g mg us) (hu : ∀ i ∈ us, i ∈ vs) (ht : ∀ σ H Q, tT K gm W0 c σ H Q → tt σ H Q) (he : ∀ σ H Q, tE K gm W0 e σ H Q → te σ H Q) :
    ∀ σ H Q, tE K gm W (mCompC s vs mg c e) σ H Q → tLc wi g tt te vs σ H Q := fun σ H Q ⟨w, env, h, ok, er, p⟩ => by
  refine hi _ _ _ ⟨w, env, h, ok, er, Post.bind p fun J s w1 H1 h1 s1 ok1 vr p1 => fun Da hD => ?_⟩
  obtain ⟨xs, gd⟩ := s
  obtain ⟨V, v0, wk⟩ := vr
  have er1 := er.mono s1
  obtain ⟨f0, r0⟩ := ok1.fresh hD
  generalize hr : compL gd vs mg c e env xs h1 [] = r at p1
  refine ⟨fun i m H => m = xs.length - i ∧ i ≤ xs.length ∧ ∃ w h acc vacc, Ok K w H h ∧ Step w1 H1 w H ∧ V w ∧ H Da = some (.lst vacc) ∧ w.F Da = none ∧ Da ∉ w.ρ ∧ VRs K w vacc acc ∧ compL gd vs mg c e env (xs.drop i) h acc = r,
    ⟨xs.length, by simp, Nat.zero_le _, w1, h1, [], [], ok1.put f0 r0, (Step.refl w1 H1).put hD, v0, upd_same, f0, r0, .nil, by simpa using hr⟩, ?_⟩
  rintro i m H2 ⟨rfl, hi, w2, h2, acc, vacc, ok2, s2, v2, d2, f2, r2, a2, hr2⟩
  have ns : r ≠ .stuck := fun z => by rw [z] at p1; exact p1
  by_cases hl : i < xs.length
  · rw [List.drop_eq_getElem_cons hl] at hr2
    unfold compL at hr2
    by_cases g0 : gd h2
    · rw [if_pos g0] at hr2
      refine .inr ⟨wk.goes w2 H2 h2 i ok2 v2 g0 hl, fun H => i + 1 ≤ xs.length ∧ ∃ w h acc vacc, Ok K w H h ∧ Step w1 H1 w H ∧ V w ∧ H Da = some (.lst vacc) ∧ w.F Da = none ∧ Da ∉ w.ρ ∧ VRs K w vacc acc ∧ compL gd vs mg c e env (xs.drop (i + 1)) h acc = r,
        fun H' z => ⟨xs.length - (i + 1), by omega, rfl, z⟩, fun y H' z => ?_⟩
      obtain ⟨rfl, el, e1, ry⟩ := wk.yields w2 H2 h2 i y H' ok2 v2 g0 hl z
      have e2 : xs[i] = el := by
        rw [List.getElem?_eq_getElem hl] at e1
        exact Option.some.inj e1
      rw [e2] at hr2
      cases q : mg el (wipeE env vs) h2 with
      | none => rw [q] at hr2; exact absurd hr2.symm ns
      | some e3 =>
        rw [q] at hr2
        have hr3 : ((c e3 h2).bindN fun t h1 => if t = true then (e e3 h1).bindN fun y h2 => if acc.length < sizeLine then compL gd vs mg c e env (xs.drop (i + 1)) h2 (acc ++ [y]) else .stuck
          else compL gd vs mg c e env (xs.drop (i + 1)) h1 acc) = r := hr2
        refine hg w2 _ h2 y el (wipe σ vs) (wipeE env vs) e3 _ ok2 ry (wipeE_env (er1.mono s2) vs) q fun σ2 er2 wp => ⟨?_, ht _ _ _ ⟨w2, e3, h2, ok2, er2, Post.bindN (f := fun t h1 => if t = true then (e e3 h1).bindN fun y h2 => if acc.length < sizeLine then compL gd vs mg c e env (xs.drop (i + 1)) h2 (acc ++ [y]) else .stuck
      else compL gd vs mg c e env (xs.drop (i + 1)) h1 acc) (δ := D) (by rw [hr3]; exact ns) fun b t w3 H3 h3 ec s3 ok3 vb => ?_⟩⟩
        · rw [wp vs hu]
          clear wp er2
          have idem : ∀ (us : List Nat) (τ : L2.St), (∀ i ∈ us, i ∈ vs) → wipe (wipe τ us) vs = wipe τ vs := by
            intro us
            induction us with
            | nil => intro τ _; rfl
            | cons u us ih =>
              intro τ hm
              show wipe ((wipe τ us).set u none) vs = _
              rw [wipe_set (hm u List.mem_cons_self), ih τ fun i m => hm i (List.mem_cons_of_mem _ m)]
          exact idem vs σ fun _ m => m
        · cases vb
          have hr4 := hr3
          rw [ec] at hr4
          have keepD : ∀ {w' : Wd} {H' : Hp} {wa : Wd} {Ha : Hp} {va : List L2.V}, Step wa Ha w' H' → Ha Da = some (.lst va) → wa.F Da = none → Da ∉ wa.ρ → H' Da = some (.lst va) ∧ w'.F Da = none ∧ Da ∉ w'.ρ := by
            intro w' H' wa Ha va st da fa ra
            refine ⟨st.keep _ _ ra da, ?_, fun m => ?_⟩
            · cases z : w'.F Da with
              | none => rfl
              | some o =>
                rcases st.nf Da o z with z2 | z2
                · rw [fa] at z2; cases z2
                · rw [da] at z2; cases z2
            · rcases st.new Da m with z2 | z2
              · exact ra z2
              · rw [da] at z2; cases z2
          obtain ⟨d3, f3, r3⟩ := keepD s3 d2 f2 r2
          cases b with
          | false => exact ⟨hl, w3, h3, acc, vacc, ok3, s2.trans s3, wk.up _ _ _ _ s3 v2, d3, f3, r3, a2.mono s3, hr4⟩
          | true =>
            have hr5 : ((e e3 h3).bindN fun y h2 => if acc.length < sizeLine then compL gd vs mg c e env (xs.drop (i + 1)) h2 (acc ++ [y]) else .stuck) = r := hr4
            rw [if_pos rfl]
            refine he _ _ _ ⟨w3, e3, h3, ok3, er2.mono s3, Post.bindN (f := fun y h2 => if acc.length < sizeLine then compL gd vs mg c e env (xs.drop (i + 1)) h2 (acc ++ [y]) else .stuck) (δ := D) (by rw [hr5]; exact ns) fun z dz w4 H4 h4 ee s4 ok4 rz => ?_⟩
            rw [ee] at hr5
            have hr6 : (if acc.length < sizeLine then compL gd vs mg c e env (xs.drop (i + 1)) h4 (acc ++ [dz]) else .stuck) = r := hr5
            obtain ⟨d4, f4, r4⟩ := keepD s4 d3 f3 r3
            by_cases hz : acc.length < sizeLine
            · rw [if_pos hz] at hr6
              exact ⟨vacc, d4, by rw [a2.length]; exact hz, hl, w4, h4, acc ++ [dz], vacc ++ [z], ok4.put f4 r4, ((s2.trans s3).trans s4).put hD, wk.up _ _ _ _ s4 (wk.up _ _ _ _ s3 v2), upd_same, f4, r4, VRs.append ((a2.mono s3).mono s4) (.cons rz .nil), hr6⟩
            · rw [if_neg hz] at hr6
              exact absurd hr6.symm ns
    · rw [if_neg g0] at hr2
      exact absurd hr2.symm ns
  · have ei : i = xs.length := by omega
    subst ei
    rw [List.drop_length] at hr2
    unfold compL at hr2
    by_cases g0 : gd h2
    · rw [if_pos g0] at hr2
      refine .inl ⟨wk.stops w2 H2 h2 ok2 v2 g0, ?_⟩
      rw [← hr2] at p1
      have q2 := ok2.adopt (c := .lst acc) d2 f2 r2 a2
      refine p1 (.ref Da) ⟨w2.F, w2.ρ ++ [Da]⟩ H2 ⟨s2.f, ?_, s2.keep, s2.dom, fun a m => ?_, s2.nf⟩ q2 (.ref ?_)
      · obtain ⟨t, e⟩ := s2.r
        exact ⟨t ++ [Da], by rw [e, List.append_assoc]⟩
      · rcases List.mem_append.mp m with m | m
        · exact s2.new a m
        · rw [List.mem_singleton] at m
          rw [m]
          exact .inr hD
      · show (w2.ρ ++ [Da])[h2.length]? = some Da
        rw [← ok2.len, List.getElem?_append_right (Nat.le_refl _), Nat.sub_self]
        rfl
    · rw [if_neg g0] at hr2
      exact absurd hr2.symm ns
section
variable {X : Cx} {W : WX} {elt tg iter : Expr} {ifs : List Expr} {scope : Scope} {own : List (Str × Nat)} {pos spos : Pos} {s : MI} {g : TG} {mg : MG} {us : List Nat} {c : MT} {e : ME}
theorem e_compC (hc : X.calm = true) (hN : X.N.Nodup) (ok : BlkOk X.N X.env.scope scope own) (hu : ∀ i ∈ us, i ∈ own.map (·.2)) (hb : TgS X.K g mg us) (hi : PI X tg iter (tI X.K X.mg W s))
    (hg : ∀ (s : Shared) (H : Hp) (C : Addr) (cl : List (Str × Addr)) (fp : List Addr), PG (X.blk s H scope (compEnvC scope cl C X.env) fp) tg g) (ht : ∀ (s : Shared) (H : Hp) (C : Addr) (cl : List (Str × Addr)) (fp : List Addr), PTs (X.blk s H scope (compEnvC scope cl C X.env) fp) ifs (tT X.K X.mg W0 c))
    (he : ∀ (s : Shared) (H : Hp) (C : Addr) (cl : List (Str × Addr)) (fp : List Addr), PE (X.blk s H scope (compEnvC scope cl C X.env) fp) elt (tE X.K X.mg W0 e)) (hs : ∀ x, foldedSetIterable iter X.env x = pure x := by intro _; rfl) :
    PE X (.ListComp elt [⟨tg, iter, ifs, 0⟩] scope pos) (tE X.K X.mg W (mCompC s (own.map (·.2)) mg c e)) := PE.imp (pe_lc hc hN hi ok hg ht he hs) (t_compC (fun _ _ _ h => h) hb hu (fun _ _ _ h => h) fun _ _ _ h => h)
theorem s_setCC {i : Nat} {y : Str} {py : Pos} (hc : X.calm = true) (hN : X.N.Nodup) (hy : X.N[i]? = some y) (hyl : X.env.scope.names.lookup y = some .local) (hsw : swapsWith (.ListComp elt [⟨tg, iter, ifs, 0⟩] scope pos) (some (.Name y py)) spos.line X.env = pure true)
    (ok : BlkOk X.N X.env.scope scope own) (hu : ∀ i ∈ us, i ∈ own.map (·.2)) (hb : TgS X.K g mg us) (hi : PI X tg iter (tI X.K X.mg W s))
    (hg : ∀ (s : Shared) (H : Hp) (C : Addr) (cl : List (Str × Addr)) (fp : List Addr), PG (X.blk s H scope (compEnvC scope cl C X.env) fp) tg g) (ht : ∀ (s : Shared) (H : Hp) (C : Addr) (cl : List (Str × Addr)) (fp : List Addr), PTs (X.blk s H scope (compEnvC scope cl C X.env) fp) ifs (tT X.K X.mg W0 c))
    (he : ∀ (s : Shared) (H : Hp) (C : Addr) (cl : List (Str × Addr)) (fp : List Addr), PE (X.blk s H scope (compEnvC scope cl C X.env) fp) elt (tE X.K X.mg W0 e)) (hs : ∀ x, foldedSetIterable iter X.env x = pure x := by intro _; rfl) :
    PS X (.Assign [.Name y py] (.ListComp elt [⟨tg, iter, ifs, 0⟩] scope pos) spos) (tS X.K X.mg W (mAsg (mCompC s (own.map (·.2)) mg c e) (gNm i))) := PS.imp (ps_setLc hc hN hy hyl hsw hi ok hg ht he hs) (t_asg (t_compC (fun _ _ _ h => h) hb hu (fun _ _ _ h => h) fun _ _ _ h => h) (g_nm i))
end
/-! ### a comprehension within a comprehension -/
theorem blkOk_in {N : List Str} {scope sc2 scf : Scope} {own : List (Str × Nat)} {cl : List (Str × Addr)} {C : Addr} {env : PySem.Env} (he : env.scope = scf) (h : blkC N (relS scope scf) sc2 own = true) : BlkOk N (compEnvC scope cl C env).scope sc2 own := by
  subst he
  exact blkOk_by h
/-! ### xs.insert(i, y), xs a cell -/
def rInsert : V → List V → Hp → VK → Prop := fun x vs H Q => ∃ (l : Addr) (xs : List V) (i : Int) (y : V), x = .ref l ∧ vs = [.int i, y] ∧ H l = some (.lst xs) ∧ xs.length < sizeLine ∧ 0 ≤ i ∧ i < 2 ^ 63 ∧
    Q .non (upd H l (.lst (xs.take i.toNat ++ [y] ++ xs.drop i.toNat)))
def gInsert : D → List D → Hap → Rs D := fun a ds h => match a, ds with
  | .ref i, [.int j, y] => match h[i]? with
    | some (.lst xs) => if xs.length < sizeLine ∧ 0 ≤ j ∧ j < 2 ^ 63 then .ok .non (h.set i (.lst (xs.take j.toNat ++ [y] ++ xs.drop j.toNat))) else .stuck
    | _ => .stuck
  | _, _ => .stuck
theorem s_insert {K : PySem.W.Frag} : MetS K gm rInsert gInsert := by
  intro w H h x xs a ds Q E ok r1 r2 p
  unfold gInsert at p
  split at p
  · next i j y =>
    split at p
    · next zs e1 =>
      split at p
      · next hl =>
        obtain ⟨v0, v, rfl, r0, r3⟩ := vrs2 r2
        cases r0
        cases r1
        next a e2 =>
        obtain ⟨_, o, e3, e4⟩ := ok.cel i a _ e2 e1
        cases o <;> simp [CRel] at e4
        next vs =>
        have q := ok.write (o := .lst (vs.take j.toNat ++ [v] ++ vs.drop j.toNat)) (c := .lst (zs.take j.toNat ++ [y] ++ zs.drop j.toNat)) e2 (VRs.append (VRs.append (VRs.take _ e4) (.cons r3 .nil)) (VRs.drop _ e4))
        exact ⟨a, vs, j, v, rfl, rfl, e3, by rw [e4.length]; exact hl.1, hl.2.1, hl.2.2, p _ _ _ q.2 q.1 .non⟩
      · exact p.elim
    · exact p.elim
  · exact p.elim
end
end Vi

set_option Elab.async false
set_option linter.all false
set_option autoImplicit false
set_option maxRecDepth 100000
set_option maxHeartbeats 2000000
namespace Vi
open PySem PySem.Spec PyProof.Rows L2
open scoped Classical
noncomputable section
/-! ### what is not reached -/
def mStuck : ME := fun _ _ => .stuck
section
variable {X : Cx} {W : WX}
theorem e_stuck {e : Expr} : PE X e (tE X.K X.mg W mStuck) := ⟨fun pins s σ H Q I h => by
  obtain ⟨w, env, hh, ok, er, p⟩ := h
  exact p.elim⟩
def mStuckT : MT := fun _ _ => .stuck
theorem c_stuck {e : Expr} : PT X e (tT X.K X.mg W mStuckT) := ⟨fun pins s σ H Q I h => by
  obtain ⟨w, env, hh, ok, er, p⟩ := h
  exact p.elim⟩
/-! ### f() -/
theorem e_f0 {k j : Nat} {x : Str} {p pos : Pos} {m : MF} (F : OkF X.prog X.w X.K X.mg X.base x k 0 m) (hr : Room j X.A) (hk : k ≤ j) (tk : L2N.Takes X W) (hg : Gl X x) (hdb : (x == ("__debug__" : Str)) = false := by decide) : PE X (.Call (.Name x p) [] [] pos) (tE X.K X.mg W (mCall m mNil)) := by
  obtain ⟨f, fd, ps, hm, kp, hb, F⟩ := F.ex
  refine ⟨fun pins s σ H Q I h => ?_⟩
  refine wpAny_Call_Name_kw (ld_glob I hg hm ?_ hdb)
  obtain ⟨w, env, h, ok, er, q⟩ := h
  exact PySem.W.callWith_K0 I.kIn kp (run_fnS (E := WE W) (vs := []) (us := []) F (hr.mono hk) hb (L2N.passAt tk σ) I .nil ⟨rfl, w, [], h, ok, .nil, q⟩)
/-! ### a tuple of texts of the module -/
def KTup (K : PySem.W.Frag) (a : Addr) (xs : List V) : Prop := ∃ (o : Obj) (its : Array Value) (n : Nat), K.lookup a = some o ∧ o.cls = .type "tuple" ∧ o.data = .seq its n ∧ its.size ≤ sizeLine ∧ Vals xs its.toList
theorem e_gtup {x : Str} {xs : List Str} {pos : Pos} (hm : ∃ a, X.mg x = some (.ref a) ∧ KTup X.K a (xs.map .str)) (hg : Gl X x) (hd : (x == ("__debug__" : Str)) = false := by decide) : PE X (.Name x pos) (tE X.K X.mg W (mC (.tup (xs.map .str)))) := by
  obtain ⟨a, hm, kt⟩ := hm
  exact e_c (v := .ref a) (pe_glob hg hm rfl hd) fun _ => .tup (.inr kt) VRs.of_strs
end
theorem ktup_of {K : PySem.W.Frag} {mg : Str → Option Value} {h : Heap} (X : K.In h) (G : h.Ns mainGlobals mg) {x : Str} {a : Addr} {d : Option Addr} {its : Array Value} {n : Nat} {sl : Array (Option Value)} {vs : List V} (q : PySem.W.nsIn K mainGlobals x = some (some (.ref a)))
    (l : K.lookup a = some ⟨.type "tuple", d, .seq its n, sl⟩) (hz : its.size ≤ sizeLine) (hv : Vals vs its.toList) : ∃ a, mg x = some (.ref a) ∧ KTup K a vs := ⟨a, PySem.W.mg_of X G q, _, its, n, l, rfl, rfl, hz, hv⟩
/-! ### str(i) -/
def dStr : List D → Hap → Option D := fun ds _ => match ds with
  | [.int i] => if i.natAbs.log2 < 1920 then some (.str (toString i)) else none
  | _ => none
theorem s_str {K : PySem.W.Frag} : CallS K (fun xs H Q => ∃ i, xs = [.int i] ∧ i.natAbs.log2 < 1920 ∧ Q (.str (toString i)) H) dStr := by
  intro w H h xs ds d Q ok vr e q
  unfold dStr at e
  split at e
  · obtain ⟨x, rfl, r⟩ := vrs1 vr
    cases r
    split at e
    · next hl => cases e; exact ⟨_, rfl, hl, q _ _ _ (Step.refl _ _) ok (.str _)⟩
    · cases e
  · cases e
end
end Vi

set_option Elab.async false
set_option linter.all false
set_option autoImplicit false
set_option maxRecDepth 100000
set_option maxHeartbeats 2000000
namespace Vi
open PySem PySem.Spec PyProof.Rows L2
open scoped Classical
noncomputable section
variable {gm : Str → Option Value}
/-! ### a dict of texts of the module: x in NAME, x not in NAME, NAME[x] -/
def kvGet : List (Str × Str) → Str → Option Str
  | [], _ => none
  | (k, v) :: r, z => if k = z then some v else kvGet r z
structure KDt (K : PySem.W.Frag) (w : World) (a : Addr) (kvs : List (Str × Str)) : Prop where
  kd : ∃ es n, KDict K w a es n
  some_ : ∀ z v, kvGet kvs z = some v → ∃ t, PySem.W.nsIn K a z = some (some (.str v t))
  none_ : ∀ z, kvGet kvs z = none → PySem.W.nsIn K a z = some none
def dKIn (kvs : List (Str × Str)) : D → Hap → Option D := fun a _ => match a with
  | .str z => some (.bl (kvGet kvs z).isSome)
  | _ => none
def dKNot (kvs : List (Str × Str)) : D → Hap → Option D := fun a _ => match a with
  | .str z => some (.bl (!(kvGet kvs z).isSome))
  | _ => none
def dKIx (kvs : List (Str × Str)) : D → Hap → Option D := fun a _ => match a with
  | .str z => (kvGet kvs z).map .str
  | _ => none
section
variable {X : Cx} {W : WX} {A : Addr} {kvs : List (Str × Str)} {x : Str} {e : Expr} {m : ME} {p pos : Pos}
theorem KDt.is (T : KDt X.K X.w A kvs) (z : Str) : ∃ r, PySem.W.nsIn X.K A z = some r ∧ r.isSome = (kvGet kvs z).isSome := by
  cases q : kvGet kvs z with
  | none => exact ⟨none, T.none_ z q, rfl⟩
  | some v =>
    obtain ⟨t, h⟩ := T.some_ z v q
    exact ⟨_, h, rfl⟩
theorem t_opR {K : PySem.W.Frag} {r : R2} {g : D → Hap → Option D} {a : ME} {v : V} (s : ∀ (w : Wd) (H : Hp) (h : Hap) (x : V) (d0 d : D) (Q : VK), Ok K w H h → VR K w x d0 → g d0 h = some d → (∀ v w' H', Step w H w' H' → Ok K w' H' h → VR K w' v d → Q v H') → r x v H Q) :
    ∀ σ H Q, tE K gm W (mUn g a) σ H Q → tOp r (tE K gm W a) (tC v) σ H Q := fun σ H Q ⟨w, env, h, ok, er, p⟩ =>
  ⟨w, env, h, ok, er, Post.bind p fun x da w1 H1 h1 s1 ok1 v1 p1 => by
    obtain ⟨d, e, q⟩ := ofO_post p1
    exact s w1 H1 h1 x da d Q ok1 v1 e q⟩
theorem t_opL {K : PySem.W.Frag} {r : R2} {g : D → Hap → Option D} {a : ME} {v : V} (s : ∀ (w : Wd) (H : Hp) (h : Hap) (x : V) (d0 d : D) (Q : VK), Ok K w H h → VR K w x d0 → g d0 h = some d → (∀ v w' H', Step w H w' H' → Ok K w' H' h → VR K w' v d → Q v H') → r v x H Q) :
    ∀ σ H Q, tE K gm W (mUn g a) σ H Q → tOp r (tC v) (tE K gm W a) σ H Q := fun σ H Q ⟨w, env, h, ok, er, p⟩ =>
  ⟨w, env, h, ok, er, Post.bind p fun x da w1 H1 h1 s1 ok1 v1 p1 => by
    obtain ⟨d, e, q⟩ := ofO_post p1
    exact s w1 H1 h1 x da d Q ok1 v1 e q⟩
theorem e_kin (hm : ∃ a, X.mg x = some (.ref a) ∧ KDt X.K X.w a kvs) (hg : Gl X x) (he : PE X e (tE X.K X.mg W m)) (hmk : behindInMarks .In (.Name x p) = false := by rfl) (hd : (x == ("__debug__" : Str)) = false := by decide) : PE X (.Compare e [.In] [.Name x p] pos) (tE X.K X.mg W (mUn (dKIn kvs) m)) := by
  obtain ⟨a, hm, T⟩ := hm
  obtain ⟨es, n, kd⟩ := T.kd
  refine PE.imp (pe_cmpR (op_in_kd kd) he (pe_glob (v := .ref a) hg hm rfl hd) hmk) (t_opR fun w H h x d0 d Q ok vr e q => ?_)
  unfold dKIn at e
  split at e <;> cases e
  next z =>
  cases vr
  obtain ⟨r, h1, h2⟩ := T.is z
  exact ⟨z, r, rfl, rfl, h1, by rw [h2]; exact q _ _ _ (Step.refl _ _) ok (.bl _)⟩
theorem e_kni (hm : ∃ a, X.mg x = some (.ref a) ∧ KDt X.K X.w a kvs) (hg : Gl X x) (he : PE X e (tE X.K X.mg W m)) (hmk : behindInMarks .NotIn (.Name x p) = false := by rfl) (hd : (x == ("__debug__" : Str)) = false := by decide) : PE X (.Compare e [.NotIn] [.Name x p] pos) (tE X.K X.mg W (mUn (dKNot kvs) m)) := by
  obtain ⟨a, hm, T⟩ := hm
  obtain ⟨es, n, kd⟩ := T.kd
  refine PE.imp (pe_cmpR (op_notIn_kd kd) he (pe_glob (v := .ref a) hg hm rfl hd) hmk) (t_opR fun w H h x d0 d Q ok vr e q => ?_)
  unfold dKNot at e
  split at e <;> cases e
  next z =>
  cases vr
  obtain ⟨r, h1, h2⟩ := T.is z
  exact ⟨z, r, rfl, rfl, h1, by rw [h2]; exact q _ _ _ (Step.refl _ _) ok (.bl _)⟩
theorem c_kin (hm : ∃ a, X.mg x = some (.ref a) ∧ KDt X.K X.w a kvs) (hg : Gl X x) (he : PE X e (tE X.K X.mg W m)) (hmk : behindInMarks .In (.Name x p) = false := by rfl) (hd : (x == ("__debug__" : Str)) = false := by decide) : PT X (.Compare e [.In] [.Name x p] pos) (tT X.K X.mg W (mTst (mUn (dKIn kvs) m))) := by
  obtain ⟨a, hm, T⟩ := hm
  obtain ⟨es, n, kd⟩ := T.kd
  refine PT.imp (pt_cmpR (op_in_kd kd) he (pe_glob (v := .ref a) hg hm rfl hd) hmk) (t_tst (t_opR fun w H h x d0 d Q ok vr e q => ?_))
  unfold dKIn at e
  split at e <;> cases e
  next z =>
  cases vr
  obtain ⟨r, h1, h2⟩ := T.is z
  exact ⟨z, r, rfl, rfl, h1, by rw [h2]; exact q _ _ _ (Step.refl _ _) ok (.bl _)⟩
theorem c_kni (hm : ∃ a, X.mg x = some (.ref a) ∧ KDt X.K X.w a kvs) (hg : Gl X x) (he : PE X e (tE X.K X.mg W m)) (hmk : behindInMarks .NotIn (.Name x p) = false := by rfl) (hd : (x == ("__debug__" : Str)) = false := by decide) : PT X (.Compare e [.NotIn] [.Name x p] pos) (tT X.K X.mg W (mTst (mUn (dKNot kvs) m))) := by
  obtain ⟨a, hm, T⟩ := hm
  obtain ⟨es, n, kd⟩ := T.kd
  refine PT.imp (pt_cmpR (op_notIn_kd kd) he (pe_glob (v := .ref a) hg hm rfl hd) hmk) (t_tst (t_opR fun w H h x d0 d Q ok vr e q => ?_))
  unfold dKNot at e
  split at e <;> cases e
  next z =>
  cases vr
  obtain ⟨r, h1, h2⟩ := T.is z
  exact ⟨z, r, rfl, rfl, h1, by rw [h2]; exact q _ _ _ (Step.refl _ _) ok (.bl _)⟩
theorem e_kix (hm : ∃ a, X.mg x = some (.ref a) ∧ KDt X.K X.w a kvs) (hg : Gl X x) (he : PE X e (tE X.K X.mg W m)) (hs : PlainIx e) (hd : (x == ("__debug__" : Str)) = false := by decide) : PE X (.Subscript (.Name x p) e pos) (tE X.K X.mg W (mUn (dKIx kvs) m)) := by
  obtain ⟨a, hm, T⟩ := hm
  obtain ⟨es, n, kd⟩ := T.kd
  refine PE.imp (pe_ix ix_kdict (pe_glob (v := .ref a) hg hm rfl hd) he hs) (t_opL fun w H h x d0 d Q ok vr e q => ?_)
  unfold dKIx at e
  split at e
  · next z =>
    obtain ⟨v, h1, rfl⟩ := Option.map_eq_some_iff.mp e
    cases vr
    obtain ⟨t, h2⟩ := T.some_ z v h1
    exact ⟨a, z, .str v, rfl, rfl, ⟨es, n, _, kd.at_, kd.lit, h2, t, rfl⟩, q _ _ _ (Step.refl _ _) ok (.str _)⟩
  · cases e
end
theorem kvGet_none : ∀ {kvs : List (Str × Str)} {z : Str}, kvGet kvs z = none → ∀ p ∈ kvs, p.1 ≠ z
  | [], _, _ => by simp
  | (k, v) :: r, z, h => by
    rw [kvGet] at h
    split at h
    · cases h
    · next hk =>
      intro p m
      rcases List.mem_cons.mp m with rfl | m
      · exact hk
      · exact kvGet_none h p m
theorem kvGet_some : ∀ {kvs : List (Str × Str)} {z v : Str}, kvGet kvs z = some v → (z, v) ∈ kvs
  | [], _, _, h => by cases h
  | (k, w) :: r, z, v, h => by
    rw [kvGet] at h
    split at h
    · next hk =>
      cases h
      rw [hk]
      exact List.mem_cons_self
    · exact List.mem_cons_of_mem _ (kvGet_some h)
theorem kdt_of {K : PySem.W.Frag} {w : World} {a : Addr} {kvs : List (Str × Str)} (h : He.dicW K a = some (He.keysIn w.params (kvs.map Prod.fst))) (hv : ∀ p ∈ kvs, ∃ t, PySem.W.nsIn K a p.1 = some (some (.str p.2 t))) : KDt K w a kvs := by
  obtain ⟨es, n, kd⟩ := He.dicW_ok h
  refine ⟨⟨es, n, kd⟩, fun z v e => hv _ (kvGet_some e), fun z e => ?_⟩
  have hk := kvGet_none e
  unfold He.dicW at h
  rw [kd.at_] at h
  have h1 : es.toList.map He.keyOf = He.keysIn w.params (kvs.map Prod.fst) := by
    simp only [] at h
    split at h
    · exact Option.some.inj h
    · cases h
  have key : ∀ e ∈ es.toList, ∃ p ∈ kvs, ∃ t, e.key = .str p.1 t := by
    intro e m
    have m2 : He.keyOf e ∈ He.keysIn w.params (kvs.map Prod.fst) := by
      rw [← h1]
      exact List.mem_map.mpr ⟨e, m, rfl⟩
    obtain ⟨k, mk, ek⟩ := List.mem_map.mp m2
    obtain ⟨p, mp, rfl⟩ := List.mem_map.mp mk
    unfold He.keyOf at ek
    split at ek
    · next x t q =>
      have e4 := Option.some.inj ek
      have e5 := (Prod.mk.inj e4).1
      exact ⟨p, mp, t, by rw [q, e5]⟩
    · cases ek
  unfold PySem.W.nsIn
  rw [kd.at_]
  have f1 : es.toList.find? (·.key.isStr z) = none := List.find?_eq_none.mpr fun e m => by
    obtain ⟨p, mp, t, ek⟩ := key e m
    rw [ek]
    have := hk p mp
    simpa [Value.isStr] using this
  have f2 : es.toList.any (·.refKey) = false := List.any_eq_false.mpr fun e m => by
    obtain ⟨p, mp, t, ek⟩ := key e m
    unfold DictEntry.refKey
    rw [ek]
    exact fun z => nomatch z
  simp only [f1, f2]
  rfl
end
end Vi

set_option Elab.async false
set_option linter.all false
set_option autoImplicit false
set_option maxRecDepth 100000
set_option maxHeartbeats 2000000
namespace Vi
open PySem PySem.Spec PyProof.Rows L2
open scoped Classical
noncomputable section
variable {gm : Str → Option Value}
/-! ### exceptions: nothing is let out -/
theorem none_out {X : Cx} : L2N.Takes X W0 := fun u s' ⟨_, _, _, _, _, _, _, _, _, _, _, _, _, _, _, _, z⟩ => z.elim
/-! ### raise C() -/
abbrev veMro : List Value := [.type "ValueError", .type "Exception", .type "BaseException", .type "object"]
/-- an own exception class without an own __init__ -/
structure ExK (K : PySem.W.Frag) (C : Addr) : Prop where
  x : PySem.W.excIn K C veMro "ValueError.__new__" = true
  k : PySem.W.keepIn K (.ref C) = true
  b : PySem.W.subIn K (.ref C) (.type "BaseException") = some true
  t : PySem.W.typeIn K (.ref C) = some (.type "type")
theorem pmk_zero {X : Cx} {x : Str} {C : Addr} {p pos : Pos} (e : ExK X.K C) (hm : X.mg x = some (.ref C)) (hg : Gl X x) (hd : (x == ("__debug__" : Str)) = false := by decide) : L2N.PMk X (.Call (.Name x p) [] [] pos) (fun _ H Q => Q (.ref C) none H) := fun pins s σ H Q I h => by
  refine wpAny_Call_Name_kw (ld_glob I hg hm ?_ hd)
  refine PySem.W.callWith_K0 I.kIn e.k ?_
  obtain ⟨_, _, _, _, _, _, _, _, _, _, _, _, _, _, _, _, _, hC, hN, hi, T⟩ := exc_obj I.kIn e.x
  exact wpAny_call_exc_subT PySem.F.excBase_ValueError T hC hN hi (fun _ _ mk => L2N.mk_of I mk (raises_own e.b e.t) h (I.hok.gone mk.new)) (Nat.zero_le _)
def mRaise0 (c : Str) : MS := fun env h => .er c none env h
theorem s_raise0 {X : Cx} {W : WX} {x : Str} {p pos pos' : Pos} (hc : X.calm = true) (tk : L2N.Takes X W) (hm : ∃ C, X.mg x = some (.ref C) ∧ ExK X.K C) (hg : Gl X x) (hd : (x == ("__debug__" : Str)) = false := by decide) :
    PS X (.Raise (some (.Call (.Name x p) [] [] pos)) none pos') (tS X.K X.mg W (mRaise0 x)) := by
  obtain ⟨C, hm, e⟩ := hm
  exact PS.imp (L2N.ps_raise hc tk (pmk_zero e hm hg hd)) fun D σ H ⟨w, env, h, ok, er, q⟩ => q (.ref C) none σ w H hm (Step.refl _ _) ok er trivial
/-! ### raise C(..), C's __init__ stores its fields -/
/-- what such an __init__ does -/
def spIni (C : Addr) (ns : List Str) : Sp := fun vs H Q _ => vs.length = ns.length + 1 ∧ ∃ a ws, vs = .ref a :: ws ∧ ws.length = ns.length ∧ H a = some (exo a C none) ∧ ∀ d, H d = none → d ≠ a → Q .non (upd (upd H d (exd d (ns.zip ws).reverse)) a (exo a C (some d)))
structure OkI (P : Program) (wd : World) (K : PySem.W.Frag) (mg : Str → Option Value) (base : Heap) (x : Str) (k : Nat) (ns : List Str) : Prop where
  ex : ∃ C fI fd ps, mg x = some (.ref C) ∧ OexC K C ∧ PySem.W.findIn K (.ref C) "__init__" = some (some (.ref fI)) ∧ PySem.W.typeIn K (.ref fI) = some (.type "function") ∧ Binds K fd ps [] ∧ FnOk P wd K mg base (L2N.CX P wd) k fI fd ps (spIni C ns)
theorem none_passes {X : Cx} : Passes (L2N.CX X.prog X.w) X E0 := fun _ _ _ _ _ _ _ z => by
  obtain ⟨_, _, _, _, _, _, _, _, _, _, _, _, z⟩ := z
  exact z.elim
theorem pmk_ini {X : Cx} {x : Str} {C fI : Addr} {k : Nat} {fd : FuncData} {ps : List Str} {sp : Sp} {e : Expr} {es : List Expr} {ta : TA} {p pos : Pos} (T : OexC X.K C) (iC : PySem.W.findIn X.K (.ref C) "__init__" = some (some (.ref fI)))
    (tI : PySem.W.typeIn X.K (.ref fI) = some (.type "function")) (F1 : FnOk X.prog X.w X.K X.mg X.base (L2N.CX X.prog X.w) k fI fd ps sp) (hr : Room (k + 1) X.A) (hb : Binds X.K fd ps []) (hg : Gl X x) (hm : X.mg x = some (.ref C)) (ha : PA X (e :: es) ta)
    (hd : (x == ("__debug__" : Str)) = false := by decide) (he : starEach (e :: es) X.env = (false, eval e X.env) :: starEach es X.env := by rfl) (hpl : (backTo pos (starEach es X.env)).any (·.1) = false := by rfl) :
    L2N.PMk X (.Call (.Name x p) (e :: es) [] pos) (tMkO C sp [] ta) := fun pins s σ H Q I h => by
  obtain ⟨n1, n2, n3, n4, bm, n6, n7, n8, n9, n10, n11, n12, n13, n14, n15, hC, hbm⟩ := T.cls
  refine wpAny_Call_Name_kw (ld_glob I hg hm ?_ hd)
  refine PySem.W.callWith_K (h₀ := X.base) I.ok.mod.kin T.kC (thn (ha.run pos pins s σ H _ I h) fun us s1 z => ?_) he hpl
  obtain ⟨vs, H1, I1, r1, hz, q1⟩ := z
  refine ⟨I1.kIn, ?_⟩
  show wpAny _ _ (call (.ref C) us) _ _ _
  obtain ⟨hp, g, dr, tk, os⟩ := s1
  generalize ep : (hp.push (PySem.W.kdv_tup us)).push (PySem.HandSPX.excO C hp.objs.size) = hp2
  have kk : ∀ b o, hp.get? b = some o → hp2.get? b = some o := fun b o z => by
    rw [← ep]
    exact Heap.get?_push_of_some _ (Heap.get?_push_of_some _ z)
  have hget : hp2.get? (hp.objs.size + 1) = some (PySem.HandSPX.excO C hp.objs.size) := by
    rw [← ep]
    heap_get
  have hq := q1 (hp.objs.size + 1) (I1.hok.fresh (Nat.le_succ _))
  have I2 : Inv X pins σ (upd H1 (hp.objs.size + 1) (exo (hp.objs.size + 1) C none)) ⟨hp2, g, dr, tk, os⟩ :=
    I1.laid (t' := tk) (o := exo (hp.objs.size + 1) C none) (h' := hp2) kk (Nat.le_succ _) (exo_ok hget)
  have r2 : Vals (V.ref (hp.objs.size + 1) :: (vs ++ [])) (Value.ref (hp.objs.size + 1) :: (us ++ [])) := .cons rfl (by rw [List.append_nil, List.append_nil]; exact r1)
  have hl : (Value.ref (hp.objs.size + 1) :: us ++ []).length = ps.length := by
    rw [← F1.len _ _ _ _ hq]
    exact r2.length.symm
  have hus : us.length ≤ sizeLine := by
    rw [← Paired.length r1, sizeLine_eq]
    omega
  refine wpAny_call (PySem.HandSPX.call_own F.excBase_ValueError (fun Y => PySem.HandSPX.refsVE_contains Y bm hbm) (I1.kIn _ _ hC) (PySem.W.looks_findIn I1.kIn iC) (fun self => PySem.W.bind_fn I1.kIn self tI) hus ?_)
  rw [ep]
  refine codeAny_mono (F1.run _ X.stack _ _ ⟨Value.ref (hp.objs.size + 1) :: us, []⟩ _ _ _ E0 (hr.make C us []) (I2.env0.make C us []) (hb _ (Value.ref (hp.objs.size + 1) :: us) I2.kIn hl) r2 hq) fun r s' hq' => ?_
  cases r with
  | error er => exact none_passes pins σ _ _ er s' I2 hq'
  | ok fl =>
    cases fl with
    | next => exact hq'.elim
    | brk => exact hq'.elim
    | cont => exact hq'.elim
    | ret u =>
      obtain ⟨v, H2, o2, b2, un2, k2, rv, ev, d, fs, ea, ed, hd1, q2⟩ := hq'
      subst ev
      obtain ⟨h2, g2, d2, t2, os'⟩ := s'
      obtain ⟨t0, G, J, kG, ge, hoe, na⟩ := mk_end0 (d2 := d2) (t2 := t2) I1 (Nat.le_succ _) kk un2 k2 o2 b2 ea ed hd1
      exact ⟨rv, hp.objs.size + 1, _, _, ⟨G, g2, d2, t2, os'⟩, _, .ref C, some d, rfl, J, kG, ge, hoe, ⟨rfl, rfl, fun z hz => by cases hz; rfl⟩, rfl, rfl, na, rfl, b2, raises_own T.exC T.tyC, q2⟩
def mRaiseF (c : Str) (ns : List Str) (a : MA) : MS := fun env h => RsS (a env h) env fun xs h1 => if xs.length = ns.length ∧ ns.length ≤ 1000 then .er c (some (ns.zip xs).reverse) env h1 else .stuck
theorem zip_fst {α β : Type} {ns : List α} {xs : List β} (h : xs.length = ns.length) : (ns.zip xs).map Prod.fst = ns := by rw [List.map_fst_zip]; omega
theorem zip_snd' {α β : Type} {ns : List α} {xs : List β} (h : xs.length = ns.length) : (ns.zip xs).map Prod.snd = xs := by rw [List.map_snd_zip]; omega
theorem VRs.reverse {K : PySem.W.Frag} {w : Wd} : ∀ {v : List V} {d : List D}, VRs K w v d → VRs K w v.reverse d.reverse
  | _, _, .nil => .nil
  | _, _, .cons a b => by
    rw [List.reverse_cons, List.reverse_cons]
    exact (VRs.reverse b).append (.cons a .nil)
theorem s_raiseF {X : Cx} {W : WX} {x : Str} {k j : Nat} {ns : List Str} {e : Expr} {es : List Expr} {ma : MA} {p pos pos' : Pos} (F : OkI X.prog X.w X.K X.mg X.base x k ns) (hr : Room j X.A) (hk : k + 1 ≤ j) (hc : X.calm = true) (tk : L2N.Takes X W) (hg : Gl X x) (ha : PA X (e :: es) (tA X.K X.mg W ma))
    (hd : (x == ("__debug__" : Str)) = false := by decide) (he : starEach (e :: es) X.env = (false, eval e X.env) :: starEach es X.env := by rfl) (hpl : (backTo pos (starEach es X.env)).any (·.1) = false := by rfl) :
    PS X (.Raise (some (.Call (.Name x p) (e :: es) [] pos)) none pos') (tS X.K X.mg W (mRaiseF x ns ma)) := by
  obtain ⟨C, fI, fd, ps, hm, T, iC, tI, hb, F1⟩ := F.ex
  refine PS.imp (L2N.ps_raise hc tk (pmk_ini T iC tI F1 (hr.mono hk) hb hg hm ha hd he hpl)) fun D σ H ⟨w, env, h, ok, er, q⟩ => ?_
  refine ⟨w, env, h, ok, er, PostS.bind er q fun v ds w1 H1 h1 s1 ok1 v1 p1 => ?_⟩
  by_cases hl : ds.length = ns.length ∧ ns.length ≤ 1000
  · rw [if_pos hl] at p1
    obtain ⟨hl, hle⟩ := hl
    have hv : v.length = ns.length := by rw [v1.length, hl]
    refine ⟨by omega, fun a ha => ⟨by simp [hv], a, v, by simp, hv, upd_same, fun d hd0 hda => ⟨rfl, d, (ns.zip v).reverse, upd_same, by rw [upd_ne hda, upd_same], by rw [upd_ne hda] at hd0; exact hd0, ?_⟩⟩⟩
    have hd1 : H1 d = none := by rw [upd_ne hda] at hd0; exact hd0
    have e : upd (del (upd (upd (upd H1 a (exo a C none)) d (exd d (ns.zip v).reverse)) a (exo a C (some d))) a) d (.xd (ns.zip v).reverse) = upd H1 d (.xd (ns.zip v).reverse) := by
      funext b
      by_cases hb : b = d
      · rw [hb, upd_same, upd_same]
      · rw [upd_ne hb, upd_ne hb]
        by_cases ha2 : b = a
        · rw [ha2, del_same, ha]
        · rw [del_ne ha2, upd_ne ha2, upd_ne hb, upd_ne ha2]
    rw [e]
    obtain ⟨f0, r0⟩ := ok1.fresh hd1
    refine p1 (.ref C) (some d) σ w1 _ hm ⟨fun _ _ z => z, ⟨[], by simp⟩, fun b o _ z => ?_, fun b z => ?_, fun _ m => .inl m, fun _ _ z => .inl z⟩ (ok1.put f0 r0) (er.mono s1) ⟨_, upd_same, r0, ?_, ?_⟩
    · rw [upd_ne (ne_of_none z hd1)]
      exact z
    · by_cases hb : b = d
      · rw [hb, upd_same]
        exact fun z => nomatch z
      · rw [upd_ne hb]
        exact z
    · rw [List.map_reverse, List.map_reverse, zip_fst hv, zip_fst hl]
    · rw [List.map_reverse, List.map_reverse, zip_snd' hv, zip_snd' hl]
      exact v1.reverse
  · rw [if_neg hl] at p1
    exact p1.elim
/-! ### what a suite knows of the exception -/
section
variable {K : PySem.W.Frag} {w w' : Wd} {H H' : Hp} {h : Hap} {σ : L2.St} {d : Option Addr} {fs : Option (List (Str × D))}
theorem XR.mono (s : Step w H w' H') (x : XR K w H d fs) : XR K w' H' d fs := by
  unfold XR at x ⊢
  split at x
  · trivial
  · obtain ⟨f1, e1, e2, e3, e4⟩ := x
    refine ⟨f1, s.keep _ _ e2 e1, fun m => ?_, e3, e4.mono s⟩
    rcases s.new _ m with z | z
    · exact e2 z
    · rw [e1] at z
      cases z
  · exact x.elim
theorem lookup_rel : ∀ {l : List (Str × V)} {l' : List (Str × D)} {f : Str} {y : D}, l.map Prod.fst = l'.map Prod.fst → VRs K w (l.map Prod.snd) (l'.map Prod.snd) → l'.lookup f = some y → ∃ v, l.lookup f = some v ∧ VR K w v y
  | [], [], _, _, _, _, e => by cases e
  | (a, v) :: l, (b, z) :: l', f, y, e1, .cons r1 r2, e => by
    have e2 : a = b := by simpa using (List.cons.inj e1).1
    subst e2
    unfold List.lookup at e ⊢
    split at e
    · next q => cases e; exact ⟨v, rfl, r1⟩
    · next q => exact lookup_rel (List.cons.inj e1).2 r2 e
end
def SE (K : PySem.W.Frag) (gm : Str → Option Value) (a : Addr) (d : Option Addr) (i : Nat) (fs : Option (List (Str × D))) (t : TE) (m : ME) : Prop := ∀ (w : Wd) (σ : L2.St) (H : Hp) (env : Env) (h : Hap) (Q : VK), Ok K w H h → EnvR K w σ env → σ[i]? = some (some (.ref a)) → XR K w H d fs →
  Post K gm (VR K) w H (m env h) Q (fun _ _ _ => False) → t σ H Q
def ST (K : PySem.W.Frag) (gm : Str → Option Value) (a : Addr) (d : Option Addr) (i : Nat) (fs : Option (List (Str × D))) (t : TT) (m : MT) : Prop := ∀ (w : Wd) (σ : L2.St) (H : Hp) (env : Env) (h : Hap) (Q : Bool → Hp → Prop), Ok K w H h → EnvR K w σ env → σ[i]? = some (some (.ref a)) → XR K w H d fs →
  Post K gm VRb w H (m env h) Q (fun _ _ _ => False) → t σ H Q
def SA (K : PySem.W.Frag) (gm : Str → Option Value) (a : Addr) (d : Option Addr) (i : Nat) (fs : Option (List (Str × D))) (t : TA) (m : MA) : Prop := ∀ (w : Wd) (σ : L2.St) (H : Hp) (env : Env) (h : Hap) (Q : List V → Hp → Prop), Ok K w H h → EnvR K w σ env → σ[i]? = some (some (.ref a)) → XR K w H d fs →
  Post K gm (VRs K) w H (m env h) Q (fun _ _ _ => False) → t σ H Q
def PostI (K : PySem.W.Frag) (w : Wd) (H : Hp) (i : Nat) (a : Addr) (r : RS) (D : Ends) : Prop := match r with
  | .nx e h => ∀ σ w' H', Step w H w' H' → Ok K w' H' h → EnvR K w' σ e → σ[i]? = some (some (.ref a)) → D.nx σ H'
  | .bk e h => ∀ σ w' H', Step w H w' H' → Ok K w' H' h → EnvR K w' σ e → σ[i]? = some (some (.ref a)) → D.bk σ H'
  | .ct e h => ∀ σ w' H', Step w H w' H' → Ok K w' H' h → EnvR K w' σ e → σ[i]? = some (some (.ref a)) → D.ct σ H'
  | .rt d h => ∀ v w' H', Step w H w' H' → Ok K w' H' h → VR K w' v d → D.rt v H'
  | _ => False
theorem PostI.step {K : PySem.W.Frag} {w w' : Wd} {H H' : Hp} {i : Nat} {a : Addr} {r : RS} {D : Ends} (s : Step w H w' H') (p : PostI K w H i a r D) : PostI K w' H' i a r D := by
  cases r with
  | nx e h => exact fun v w2 H2 s2 ok vr => p v w2 H2 (s.trans s2) ok vr
  | bk e h => exact fun v w2 H2 s2 ok vr => p v w2 H2 (s.trans s2) ok vr
  | ct e h => exact fun v w2 H2 s2 ok vr => p v w2 H2 (s.trans s2) ok vr
  | rt e h => exact fun v w2 H2 s2 ok vr => p v w2 H2 (s.trans s2) ok vr
  | er c fs e h => exact p
  | stuck => exact p
theorem PostI.bind {α β : Type} {K : PySem.W.Frag} {w : Wd} {H : Hp} {i : Nat} {a : Addr} {VA : Wd → β → α → Prop} {r : Rs α} {env : Env} {f : α → Hap → RS} {D : Ends} {Q1 : β → Hp → Prop} (p : PostI K w H i a (RsS r env f) D)
    (k : ∀ v x w' H' h', Step w H w' H' → Ok K w' H' h' → VA w' v x → PostI K w' H' i a (f x h') D → Q1 v H') : Post K gm VA w H r Q1 (fun _ _ _ => False) := by
  cases r with
  | ok x h => exact fun v w' H' s ok vr => k v x w' H' h s ok vr (PostI.step s p)
  | err c fs h => exact p.elim
  | stuck => exact p
def SS (K : PySem.W.Frag) (a : Addr) (d : Option Addr) (i : Nat) (fs : Option (List (Str × D))) (t : TS) (m : MS) : Prop := ∀ (w : Wd) (σ : L2.St) (H : Hp) (env : Env) (h : Hap) (D : Ends), Ok K w H h → EnvR K w σ env → σ[i]? = some (some (.ref a)) → XR K w H d fs →
  PostI K w H i a (m env h) D → t D σ H
section
variable {X : Cx} {a : Addr} {oe : Obj} {pn : List (Addr × Obj)} {d : Option Addr} {i : Nat} {fs : Option (List (Str × D))}
def SPE (X : Cx) (a : Addr) (oe : Obj) (pn : List (Addr × Obj)) (d : Option Addr) (i : Nat) (fs : Option (List (Str × D))) (e : Expr) (m : ME) : Prop := ∃ t, PE (X.suite a ((a, oe) :: pn)) e t ∧ SE X.K X.mg a d i fs t m
def SPT (X : Cx) (a : Addr) (oe : Obj) (pn : List (Addr × Obj)) (d : Option Addr) (i : Nat) (fs : Option (List (Str × D))) (e : Expr) (m : MT) : Prop := ∃ t, PT (X.suite a ((a, oe) :: pn)) e t ∧ ST X.K X.mg a d i fs t m
def SPW (X : Cx) (a : Addr) (oe : Obj) (pn : List (Addr × Obj)) (d : Option Addr) (i : Nat) (fs : Option (List (Str × D))) (e : Expr) (m : MT) : Prop := ∃ t, PW (X.suite a ((a, oe) :: pn)) e t ∧ ST X.K X.mg a d i fs t m
def SPA (X : Cx) (a : Addr) (oe : Obj) (pn : List (Addr × Obj)) (d : Option Addr) (i : Nat) (fs : Option (List (Str × D))) (e : List Expr) (m : MA) : Prop := ∃ t, PA (X.suite a ((a, oe) :: pn)) e t ∧ SA X.K X.mg a d i fs t m
def SPS (X : Cx) (a : Addr) (oe : Obj) (pn : List (Addr × Obj)) (d : Option Addr) (i : Nat) (fs : Option (List (Str × D))) (e : Stmt) (m : MS) : Prop := ∃ t, PS (X.suite a ((a, oe) :: pn)) e t ∧ SS X.K a d i fs t m
def SPSs (X : Cx) (a : Addr) (oe : Obj) (pn : List (Addr × Obj)) (d : Option Addr) (i : Nat) (fs : Option (List (Str × D))) (e : List Stmt) (m : MS) : Prop := ∃ t, PSs (X.suite a ((a, oe) :: pn)) e t ∧ SS X.K a d i fs t m
theorem sp_of {e : Expr} {m : ME} (h : PE (X.suite a ((a, oe) :: pn)) e (tE X.K X.mg W0 m)) : SPE X a oe pn d i fs e m := ⟨_, h, fun w σ H env h Q ok er _ _ p => ⟨w, env, h, ok, er, p⟩⟩
theorem st_of {e : Expr} {m : MT} (h : PT (X.suite a ((a, oe) :: pn)) e (tT X.K X.mg W0 m)) : SPT X a oe pn d i fs e m := ⟨_, h, fun w σ H env h Q ok er _ _ p => ⟨w, env, h, ok, er, p⟩⟩
theorem sa_of {e : List Expr} {m : MA} (h : PA (X.suite a ((a, oe) :: pn)) e (tA X.K X.mg W0 m)) : SPA X a oe pn d i fs e m := ⟨_, h, fun w σ H env h Q ok er _ _ p => ⟨w, env, h, ok, er, p⟩⟩
/-- e.f -/
def mXf (fs : Option (List (Str × D))) (f : Str) : ME := fun _ h => ofO (fs.bind fun l => l.lookup f) h
theorem sp_xf {C : Addr} {f nm : Str} {p pos : Pos} (T : XfC X.K C) (hno : PySem.W.findIn X.K (.ref C) f = some none) (hz : Zc (.ref C) d oe) (hf : ∃ vs, oe.data = .fields vs) (hN : X.N[i]? = some nm) (hv : Vis X.env.scope nm) (hd : (nm == ("__debug__" : Str)) = false := by decide) (hcd : (nm == ("__classdict__" : Str)) = false := by decide)
    (hb : attributeBase (.Name nm p) f X.env (eval (.Name nm p) X.env) = eval (.Name nm p) X.env := by rfl) : SPE X a oe pn d i fs (.Attribute (.Name nm p) f pos) (mXf fs f) := by
  refine ⟨_, pe_xf T hno hz hf (pe_var (X := X.suite a ((a, oe) :: pn)) hN hv hd hcd) hb, fun w σ H env h Q ok er sl xr q => ?_⟩
  obtain ⟨y, e, q0⟩ := ofO_post q
  obtain ⟨l, e1, e2⟩ := Option.bind_eq_some_iff.mp e
  subst e1
  cases d with
  | none => exact xr.elim
  | some dd =>
    obtain ⟨f1, e3, _, e4, e5⟩ := xr
    obtain ⟨v, e6, e7⟩ := lookup_rel e4 e5 e2
    exact ⟨.ref a, sl, rfl, rfl, dd, f1, v, rfl, e3, e6, q0 v w H (Step.refl _ _) ok e7⟩
/-- isinstance(e, C) -/
structure ExQ (K : PySem.W.Frag) (C : Addr) : Prop where
  c : (PySem.W.clsIn K C).isSome = true
  g : PySem.W.findIn K (.ref C) "__getattribute__" = some (some (.builtin "BaseException.__getattribute__"))
  n : PySem.W.findIn K (.ref C) "__getattr__" = some none
  s : PySem.W.subIn K (.ref C) (.type "BaseException") = some true
  a : PySem.W.findIn K (.ref C) "__class__" = some (some (.builtin "object.__class__"))
  d : PySem.W.specialIn K (.builtin "object.__class__") "__get__" = some (some (.builtin "getset_descriptor.__get__"))
  t : PySem.W.takesIn K (.builtin "object.__class__") = some true
  m : PySem.W.mroIn K C (.type "object") = some true
theorem cr_ise {C : Addr} (q : ExQ X.K C) (hz : Zc (.ref C) d oe) (hf : ∃ vs, oe.data = .fields vs) : CallR (X.suite a ((a, oe) :: pn)) (.builtin "isinstance") (fun xs H Q => (∀ dd, d = some dd → ∃ fs, H dd = some (.xd fs)) ∧ rIsE X.K C a xs H Q) := by
  intro pins s σ H xs us Q I r h
  obtain ⟨hx, c, cv, b, rfl, hcv, e, k⟩ := h
  obtain ⟨u1, u2, rfl, r1, r2⟩ := vals2 r
  cases r1
  obtain rfl := hcv _ r2
  obtain ⟨hget, _⟩ := I.pin (a, oe) (List.mem_append_left _ List.mem_cons_self)
  obtain ⟨vs, hv⟩ := hf
  have J : ∃ od, PySem.W.InstAt s.heap a oe C od := by
    cases hd : d with
    | none =>
      refine ⟨none, hget, hz.1, by unfold PySem.W.notCls; rw [hv] <;> rfl, ?_⟩
      rw [hz.2, hd]
      trivial
    | some dd =>
      obtain ⟨f1, e1⟩ := hx dd hd
      have x : ObjOk X.prog X.w H s.heap dd (.xd f1) := I.hok dd _ e1
      obtain ⟨mA, hns, _⟩ := x
      obtain ⟨od, ho, _⟩ := lookIn_ns hns
      refine ⟨some od, hget, hz.1, by unfold PySem.W.notCls; rw [hv] <;> rfl, ?_⟩
      rw [hz.2, hd]
      exact ho
  obtain ⟨od, J⟩ := J
  exact PySem.W.kia_one (PySem.W.kitx_exc q.c q.g q.n q.s q.a q.d q.t q.m) I.kIn J e (fun z => nomatch z) fun tk => ⟨.bl b, H, I.kept (t' := tk) fun _ _ z => z, rfl, k⟩
theorem sp_is {C : Addr} {nm : Str} {b : Bool} {p p1 pos : Pos} {e2 : Expr} {cv : Value} {c : V} (q : ExQ X.K C) (hz : Zc (.ref C) d oe) (hf : ∃ vs, oe.data = .fields vs) (hN : X.N[i]? = some nm) (hv : Vis X.env.scope nm) (h2 : PE (X.suite a ((a, oe) :: pn)) e2 (tC c)) (hcv : ∀ u, RelV c u → u = cv)
    (hk : PySem.W.kitOne X.K (.ref C) cv = some b) (hg : Gl X "isinstance") (hm : X.mg "isinstance" = none) (hd : (nm == ("__debug__" : Str)) = false := by decide) (hcd : (nm == ("__classdict__" : Str)) = false := by decide)
    (hs : starEach [.Name nm p1, e2] (X.suite a ((a, oe) :: pn)).env = (false, eval (.Name nm p1) (X.suite a ((a, oe) :: pn)).env) :: starEach [e2] (X.suite a ((a, oe) :: pn)).env := by rfl) (hs2 : starEach [e2] (X.suite a ((a, oe) :: pn)).env = (false, eval e2 (X.suite a ((a, oe) :: pn)).env) :: starEach [] (X.suite a ((a, oe) :: pn)).env := by rfl)
    (hpl : (backTo pos (starEach [e2] (X.suite a ((a, oe) :: pn)).env)).any (·.1) = false := by rfl) : SPE X a oe pn d i fs (.Call (.Name "isinstance" p) [.Name nm p1, e2] [] pos) (mC (.bl b)) := by
  refine ⟨_, pe_callB (cr_ise q hz hf) hg hm bl_isinstance (pa_cons (pe_var (X := X.suite a ((a, oe) :: pn)) hN hv hd hcd) (pa_cons h2 pa_nil hs2) hs) (by decide) (by decide) hs hpl, fun w σ H env h Q ok er sl xr q' => ?_⟩
  refine ⟨.ref a, sl, fun dd hdd => ?_, c, cv, b, rfl, hcv, hk, q' (.bl b) w H (Step.refl _ _) ok (.bl b)⟩
  subst hdd
  cases fs with
  | none => exact xr.elim
  | some l =>
    obtain ⟨f1, e3, _⟩ := xr
    exact ⟨f1, e3⟩
theorem sp_one {op : BoolOp} {e : Expr} {m : ME} {pos : Pos} (h : SPE X a oe pn d i fs e m) : SPE X a oe pn d i fs (.BoolOp op [e] pos) m := let ⟨t, h, s⟩ := h; ⟨t, pe_one h, s⟩
theorem sp_and {e e' : Expr} {rest : List Expr} {m m' : ME} {pos : Pos} (h : SPE X a oe pn d i fs e m) (h' : SPE X a oe pn d i fs (.BoolOp .And (e' :: rest) pos) m') : SPE X a oe pn d i fs (.BoolOp .And (e :: e' :: rest) pos) (mAnd m m') := by
  obtain ⟨t, h, s⟩ := h
  obtain ⟨t', h', s'⟩ := h'
  refine ⟨_, pe_and h h', fun w σ H env hh Q ok er sl xr p => s w σ H env hh _ ok er sl xr (Post.bind p fun x da w1 H1 h1 s1 ok1 v1 p1 => ?_)⟩
  cases v1 <;> try exact p1.elim
  next b =>
  refine ⟨b, rfl, ?_⟩
  cases b with
  | true => exact s' w1 σ H1 env h1 Q ok1 (er.mono s1) sl (xr.mono s1) p1
  | false => exact p1.ok ok1 (.bl false)
theorem sp_or {e e' : Expr} {rest : List Expr} {m m' : ME} {pos : Pos} (h : SPE X a oe pn d i fs e m) (h' : SPE X a oe pn d i fs (.BoolOp .Or (e' :: rest) pos) m') : SPE X a oe pn d i fs (.BoolOp .Or (e :: e' :: rest) pos) (mOr m m') := by
  obtain ⟨t, h, s⟩ := h
  obtain ⟨t', h', s'⟩ := h'
  refine ⟨_, pe_or h h', fun w σ H env hh Q ok er sl xr p => s w σ H env hh _ ok er sl xr (Post.bind p fun x da w1 H1 h1 s1 ok1 v1 p1 => ?_)⟩
  cases v1 <;> try exact p1.elim
  next b =>
  refine ⟨b, rfl, ?_⟩
  cases b with
  | false => exact s' w1 σ H1 env h1 Q ok1 (er.mono s1) sl (xr.mono s1) p1
  | true => exact p1.ok ok1 (.bl true)
theorem sp_not {e : Expr} {m : ME} {pos : Pos} (h : SPE X a oe pn d i fs e m) : SPE X a oe pn d i fs (.UnaryOp .Not e pos) (mNot m) := by
  obtain ⟨t, h, s⟩ := h
  refine ⟨_, pe_not h, fun w σ H env hh Q ok er sl xr p => s w σ H env hh _ ok er sl xr (Post.bind p fun x da w1 H1 h1 s1 ok1 v1 p1 => ?_)⟩
  cases v1 <;> try exact p1.elim
  next b => exact ⟨b, rfl, p1.ok ok1 (.bl _)⟩
theorem sa_cons {e : Expr} {es : List Expr} {m : ME} {r : MA} (h : SPE X a oe pn d i fs e m) (h' : SPA X a oe pn d i fs es r) (hs : starEach (e :: es) (X.suite a ((a, oe) :: pn)).env = (false, eval e (X.suite a ((a, oe) :: pn)).env) :: starEach es (X.suite a ((a, oe) :: pn)).env := by rfl) : SPA X a oe pn d i fs (e :: es) (mCons m r) := by
  obtain ⟨t, h, s⟩ := h
  obtain ⟨t', h', s'⟩ := h'
  exact ⟨_, pa_cons h h' hs, fun w σ H env hh Q ok er sl xr p => s w σ H env hh _ ok er sl xr (Post.bind p fun x da w1 H1 h1 s1 ok1 v1 p1 => s' w1 σ H1 env h1 _ ok1 (er.mono s1) sl (xr.mono s1) (Post.bind p1 fun xs ds w2 H2 h2 s2 ok2 v2 p2 => p2.ok ok2 (.cons (v1.mono s2) v2)))⟩
theorem sp_tup {es : List Expr} {m : MA} {k : Nat} {pos : Pos} (h : SPA X a oe pn d i fs es m) : SPE X a oe pn d i fs (.Tuple es k pos) (mTup m) := by
  obtain ⟨t, h, s⟩ := h
  refine ⟨_, pe_tup h, fun w σ H env hh Q ok er sl xr p => s w σ H env hh _ ok er sl xr (Post.bind p fun x da w1 H1 h1 s1 ok1 v1 p1 => ?_)⟩
  by_cases hl : da.length ≤ sizeLine
  · rw [if_pos hl] at p1
    exact ⟨by rw [v1.length]; exact hl, fun a ha => p1.alloc ok1 ha (vr_tup ok1 ha v1)⟩
  · rw [if_neg hl] at p1
    exact p1.elim
theorem sp_lst {es : List Expr} {m : MA} {pos : Pos} (h : SPA X a oe pn d i fs es m) : SPE X a oe pn d i fs (.List es pos) (mLst m) := by
  obtain ⟨t, h, s⟩ := h
  refine ⟨_, pe_lst h, fun w σ H env hh Q ok er sl xr p => s w σ H env hh _ ok er sl xr (Post.bind p fun x da w1 H1 h1 s1 ok1 v1 p1 => ?_)⟩
  by_cases hl : da.length ≤ sizeLine
  · rw [if_pos hl] at p1
    exact ⟨by rw [v1.length]; exact hl, fun a ha => p1.alloc ok1 ha (vr_lst ok1 ha v1)⟩
  · rw [if_neg hl] at p1
    exact p1.elim
theorem st_val {e : Expr} {m : ME} (h : SPE X a oe pn d i fs e m) (he : ∀ whole, isTrue e (X.suite a ((a, oe) :: pn)).env whole = (do let v ← whole; standAt e.pos; holding [v] (truthy v)) := by intro _; rfl) : SPT X a oe pn d i fs e (mTst m) := by
  obtain ⟨t, h, s⟩ := h
  refine ⟨_, pt_val h he, fun w σ H env hh Q ok er sl xr p => s w σ H env hh _ ok er sl xr (Post.bind p fun x da w1 H1 h1 s1 ok1 v1 p1 => ?_)⟩
  obtain ⟨b, e, q⟩ := ofO_post p1
  have e2 := oB_some e
  subst e2
  cases v1
  exact ⟨b, rfl, q b w1 H1 (Step.refl _ _) ok1 rfl⟩
theorem st_not {e : Expr} {m : MT} {pos : Pos} (h : SPT X a oe pn d i fs e m) : SPT X a oe pn d i fs (.UnaryOp .Not e pos) (mNotT m) := by
  obtain ⟨t, h, s⟩ := h
  refine ⟨_, pt_not h, fun w σ H env hh Q ok er sl xr p => s w σ H env hh _ ok er sl xr (Post.bind p fun x da w1 H1 h1 s1 ok1 v1 p1 => ?_)⟩
  cases v1
  exact p1 _ w1 H1 (Step.refl _ _) ok1 rfl
theorem sw_and1 {e : Expr} {m : MT} {pos : Pos} (h : SPT X a oe pn d i fs e m) : SPW X a oe pn d i fs (.BoolOp .And [e] pos) m := let ⟨t, h, s⟩ := h; ⟨t, pw_and1 h, s⟩
theorem sw_or1 {e : Expr} {m : MT} {pos : Pos} (h : SPT X a oe pn d i fs e m) : SPW X a oe pn d i fs (.BoolOp .Or [e] pos) m := let ⟨t, h, s⟩ := h; ⟨t, pw_or1 h, s⟩
theorem sw_and {e e' : Expr} {rest : List Expr} {m m' : MT} {pos : Pos} (h : SPT X a oe pn d i fs e m) (h' : SPW X a oe pn d i fs (.BoolOp .And (e' :: rest) pos) m') : SPW X a oe pn d i fs (.BoolOp .And (e :: e' :: rest) pos) (mAndT m m') := by
  obtain ⟨t, h, s⟩ := h
  obtain ⟨t', h', s'⟩ := h'
  refine ⟨_, pw_and h h', fun w σ H env hh Q ok er sl xr p => s w σ H env hh _ ok er sl xr (Post.bind p fun x da w1 H1 h1 s1 ok1 v1 p1 => ?_)⟩
  cases v1
  cases x with
  | true => exact s' w1 σ H1 env h1 Q ok1 (er.mono s1) sl (xr.mono s1) p1
  | false => exact p1 _ w1 H1 (Step.refl _ _) ok1 rfl
theorem sw_or {e e' : Expr} {rest : List Expr} {m m' : MT} {pos : Pos} (h : SPT X a oe pn d i fs e m) (h' : SPW X a oe pn d i fs (.BoolOp .Or (e' :: rest) pos) m') : SPW X a oe pn d i fs (.BoolOp .Or (e :: e' :: rest) pos) (mOrT m m') := by
  obtain ⟨t, h, s⟩ := h
  obtain ⟨t', h', s'⟩ := h'
  refine ⟨_, pw_or h h', fun w σ H env hh Q ok er sl xr p => s w σ H env hh _ ok er sl xr (Post.bind p fun x da w1 H1 h1 s1 ok1 v1 p1 => ?_)⟩
  cases v1
  cases x with
  | false => exact s' w1 σ H1 env h1 Q ok1 (er.mono s1) sl (xr.mono s1) p1
  | true => exact p1 _ w1 H1 (Step.refl _ _) ok1 rfl
theorem st_w {e : Expr} {m : MT} (h : SPW X a oe pn d i fs e m) : SPT X a oe pn d i fs e m := let ⟨t, h, s⟩ := h; ⟨t, PW.pt h, s⟩
/-! statements of a suite -/
theorem ss_ret {e : Expr} {m : ME} {pos : Pos} (h : SPE X a oe pn d i fs e m) : SPS X a oe pn d i fs (.Return (some e) pos) (mRet m) := by
  obtain ⟨t, h, s⟩ := h
  exact ⟨_, ps_ret h, fun w σ H env hh D ok er sl xr p => s w σ H env hh _ ok er sl xr (PostI.bind p fun v x w' H' h' s1 ok1 vr p' => p' v w' H' (Step.refl _ _) ok1 vr)⟩
theorem ss_if {c : Expr} {b1 b2 : List Stmt} {mc : MT} {m1 m2 : MS} {pos : Pos} (h : SPT X a oe pn d i fs c mc) (h1 : SPSs X a oe pn d i fs b1 m1) (h2 : SPSs X a oe pn d i fs b2 m2) : SPS X a oe pn d i fs (.If c b1 b2 pos) (mIfS mc m1 m2) := by
  obtain ⟨t, h, s⟩ := h
  obtain ⟨t1, h1, s1⟩ := h1
  obtain ⟨t2, h2, s2⟩ := h2
  refine ⟨_, ps_if h h1 h2, fun w σ H env hh D ok er sl xr p => s w σ H env hh _ ok er sl xr (PostI.bind p fun v x w' H' h' st ok1 vr p' => ?_)⟩
  cases vr
  cases v with
  | true => exact s1 w' σ H' env h' D ok1 (er.mono st) sl (xr.mono st) p'
  | false => exact s2 w' σ H' env h' D ok1 (er.mono st) sl (xr.mono st) p'
theorem ss_set {j : Nat} {x : Str} {e : Expr} {m : ME} {pos pos' : Pos} (hij : j ≠ i) (hN : X.N.Nodup) (hi : X.N[j]? = some x) (hx : Loc X.env.scope x) (h : SPE X a oe pn d i fs e m) (hs : swapsWith e (some (.Name x pos')) pos.line X.env = pure false := by rfl) (hf : X.fn x = true ∨ X.env.scope.names.lookup x = some .local := by first | exact .inl rfl | exact .inr rfl | assumption) :
    SPS X a oe pn d i fs (.Assign [.Name x pos'] e pos) (mAsg m (gNm j)) := by
  obtain ⟨t, h, s⟩ := h
  refine ⟨_, ps_set (X := X.suite a ((a, oe) :: pn)) hN hi hx h hs hf, fun w σ H env hh D ok er sl xr p => s w σ H env hh _ ok er sl xr (PostI.bind p fun v x w' H' h' st ok1 vr p' => ?_)⟩
  refine p' _ w' H' (Step.refl _ _) ok1 ((er.mono st).set vr j) ?_
  rw [List.getElem?_set_ne hij]
  exact sl
theorem ss_nil' : SPSs X a oe pn d i fs [] mNext := ⟨_, pss_nil, fun w σ H env hh D ok er sl xr p => p σ w H (Step.refl _ _) ok er sl⟩
theorem ss_one' {st : Stmt} {m : MS} (h : SPS X a oe pn d i fs st m) : SPSs X a oe pn d i fs [st] m := let ⟨t, h, s⟩ := h; ⟨t, pss_one h, s⟩
theorem ss_cons' {st : Stmt} {rest : List Stmt} {m m' : MS} (h : SPS X a oe pn d i fs st m) (h' : SPSs X a oe pn d i fs rest m') (hd : d = none ∨ True) : SPSs X a oe pn d i fs (st :: rest) (mSeq m m') := by
  obtain ⟨t, h, s⟩ := h
  obtain ⟨t', h', s'⟩ := h'
  refine ⟨_, pss_cons h h', fun w σ H env hh D ok er sl xr p => s w σ H env hh _ ok er sl xr ?_⟩
  unfold mSeq at p
  revert p
  cases m env hh with
  | nx e1 h1 => exact fun p σ' w' H' st ok' er' sl' => s' w' σ' H' e1 h1 D ok' er' sl' (xr.mono st) (PostI.step st p)
  | bk e1 h1 => exact fun p => p
  | ct e1 h1 => exact fun p => p
  | rt e1 h1 => exact fun p => p
  | er c fs e1 h1 => exact fun p => p
  | stuck => exact fun p => p
end
/-! ### try: .. except C as e: .. -/
def RS.forget (i : Nat) (r : RS) : RS := match r with
  | .nx e h => .nx (e.set i none) h
  | .bk e h => .bk (e.set i none) h
  | .ct e h => .ct (e.set i none) h
  | .rt d h => .rt d h
  | _ => .stuck
def mTryAs (cs os : List Str) (i : Nat) (b : MS) (su : Str → Option (List (Str × D)) → MS) : MS := fun env h => match b env h with
  | .er c fs e h1 => if c ∈ cs then (su c fs (e.set i none) h1).forget i else if c ∈ os then .er c fs e h1 else .stuck
  | r => r
theorem EnvR.unset {K : PySem.W.Frag} {w : Wd} {σ : L2.St} {env : Env} (er : EnvR K w σ env) (i : Nat) (z : Option V) : EnvR K w (σ.set i z) (env.set i none) := ⟨by rw [List.length_set, List.length_set]; exact er.len, fun j d' e => by
  by_cases q : i = j
  · subst q
    by_cases hl : i < env.length
    · rw [List.getElem?_set_self hl] at e
      cases e
    · rw [List.getElem?_eq_none (by rw [List.length_set]; omega)] at e
      cases e
  · rw [List.getElem?_set_ne q] at e ⊢
    exact er.get j d' e⟩
/-- which classes a clause catches, and which not -/
structure Cat (K : PySem.W.Frag) (mg : Str → Option Value) (x : Str) (cs os : List Str) : Prop where
  ex : ∃ C : Addr, mg x = some (.ref C) ∧ (∀ c ∈ cs, ∀ cv, mg c = some cv → PySem.W.exmOne K cv (.ref C) = some true) ∧ (∀ c ∈ os, ∀ cv, mg c = some cv → PySem.W.exmOne K cv (.ref C) = some false)
theorem s_tryAs {X : Cx} {W : WX} {x n : Str} {i : Nat} {body suite : List Stmt} {b₀ : Stmt} {np pos pos' : Pos} {mb : MS} {cs os : List Str} {su : Str → Option (List (Str × D)) → MS} (hs : X.stack = X.env :: X.outer) (hf : X.env.frame = some X.env.locals) (hN : X.N.Nodup) (hi : X.N[i]? = some n)
    (hln : X.env.kindOf n = some .local) (hg : Gl X x) (tk : L2N.Takes X W) (hcat : Cat X.K X.mg x cs os)
    (hb : ∀ (W : WX) (pn : List (Addr × Obj)) (xe : Value → Shared → Prop), L2N.Takes (X.tr pn xe) W → PassesOwn (model X.prog X.w) X.A X.env xe → PSs (X.tr pn xe) body (tS X.K X.mg W mb))
    (hsu : ∀ c ∈ cs, ∀ (cv : Value) (fs : Option (List (Str × D))) (a : Addr) (oe : Obj) (d : Option Addr) (pn : List (Addr × Obj)), X.mg c = some cv → L2N.Zn cv d oe → (∃ vs, oe.data = .fields vs) → SPSs X a oe pn d i fs (b₀ :: suite) (su c fs))
    (hd : (x == ("__debug__" : Str)) = false := by decide) :
    PS X (.Try body [.ExceptHandler (some (.Name x np)) (some n) (b₀ :: suite) pos'] [] [] pos) (tS X.K X.mg W (mTryAs cs os i mb su)) := by
  obtain ⟨C, hC, h1, h2⟩ := hcat.ex
  have hil : i < X.N.length := (List.getElem?_eq_some_iff.mp hi).1
  refine PS.imp (L2N.ps_try_as (tb := fun W => tS X.K X.mg W mb) (ts := fun a cls d D σ H => σ.length = X.N.length → ∃ w env h c fs, c ∈ cs ∧ X.mg c = some cls ∧ Ok X.K w H h ∧ EnvR X.K w σ env ∧ σ[i]? = some (some (.ref a)) ∧ XR X.K w H d fs ∧ PostI X.K w H i a (su c fs env h) D) hs hf hN hi hln ⟨hg, hd, .inl hC⟩ tk hb
    fun a oe cls d pn hz hfl => ⟨fun pins s σ H D I h => ?_⟩) fun D σ H ⟨w, env, h, ok, er, p⟩ => ⟨w, env, h, ok, er, ?_⟩
  · obtain ⟨w, env, hh, c, fs, hc, hm, ok, er, sl, xr, p⟩ := h I.len
    obtain ⟨t, ht, st⟩ := hsu c hc cls fs a oe d pn hm hz hfl
    exact ht.run pins s σ H D I (st w σ H env hh D ok er sl xr p)
  · unfold mTryAs at p
    revert p
    cases mb env h with
    | nx e1 h1 => exact fun p => p
    | bk e1 h1 => exact fun p => p
    | ct e1 h1 => exact fun p => p
    | rt e1 h1 => exact fun p => p
    | stuck => exact fun p => p
    | er c fs e1 hh1 =>
      intro p cv d σ' w' H' hcv s1 ok1 er1 xr1
      dsimp only at p
      split at p
      · next hc =>
        refine ⟨true, h1 c hc cv hcv, fun _ a ha hlen => ?_, fun z => nomatch z⟩
        have hlen' : i < σ'.length := by
          rw [List.length_set] at hlen
          omega
        refine ⟨w', e1.set i none, hh1, c, fs, hc, hcv, ok1, er1.unset i _, by rw [List.getElem?_set_self hlen'], xr1, ?_⟩
        have p' := PostS.step s1 p
        clear p
        revert p'
        cases su c fs (e1.set i none) hh1 with
        | nx e2 h2 => exact fun p' σ2 w2 H2 s2 ok2 er2 _ => p' _ w2 H2 s2 ok2 (er2.unset i none)
        | bk e2 h2 => exact fun p' σ2 w2 H2 s2 ok2 er2 _ => p' _ w2 H2 s2 ok2 (er2.unset i none)
        | ct e2 h2 => exact fun p' σ2 w2 H2 s2 ok2 er2 _ => p' _ w2 H2 s2 ok2 (er2.unset i none)
        | rt e2 h2 => exact fun p' => p'
        | er c2 fs2 e2 h2 => exact fun p' => p'
        | stuck => exact fun p' => p'
      · split at p
        · next hc ho => exact ⟨false, h2 c ho cv hcv, fun z => Bool.noConfusion z, fun _ => p cv d σ' w' H' hcv s1 ok1 er1 xr1⟩
        · exact p.elim
end
end Vi

set_option Elab.async false
set_option linter.all false
set_option autoImplicit false
set_option maxRecDepth 100000
set_option maxHeartbeats 2000000
namespace Vi
open PySem PySem.Spec PyProof.Rows L2
open scoped Classical
noncomputable section
variable {gm : Str → Option Value}
/-! ### defs that are called within a suite -/
structure OkH (P : Program) (wd : World) (K : PySem.W.Frag) (mg : Str → Option Value) (base : Heap) (x : Str) (k n : Nat) (m : MF) : Prop where
  ex : ∃ f fd ps, mg x = some (.ref f) ∧ PySem.W.keepIn K (.ref f) = true ∧ Binds K fd ps [] ∧ L2H.FnH P wd K mg base (L2N.CX P wd) k f fd ps (spM K mg n m)
section
variable {P : Program} {wd : World} {K : PySem.W.Frag} {mg : Str → Option Value} {base : Heap}
theorem OkH.mk' {x : Str} {st : Stmt} {N ps : List Str} {k n z : Nat} {b : MS} {m : MF} (h : Has K mg x st ps) (S : FnScope N ps (defScope st)) (hn : ps.length = n) (hN : N.length = z) (hm : m = run z b)
    (hbody : ∀ (f : Addr) (cdv : Value) (A : Around) (outer : List PySem.Env) (s : Shared) (H : Hp) (E : XK) (p : Addr × Obj), L2H.HotC (L2H.cxH (L2N.CX P wd) P wd K mg base N x (defScope st) f cdv A outer s H E p) → L2H.RoomH k (A.deeper (envOfC x (defScope st) s.heap.objs.size f cdv)) →
      PSs (L2H.cxH (L2N.CX P wd) P wd K mg base N x (defScope st) f cdv A outer s H E p) (defBody st) (tS K mg (fun cls d _ H => E cls d H) b)) : OkH P wd K mg base x (k + 1) n m := by
  obtain ⟨f, fd, F, hf, hb⟩ := h
  subst hn hN hm
  refine ⟨f, fd, ps, hf, F.kp, hb, ?_⟩
  obtain ⟨c1, c2, c3, c4, c5, c6, c7, c8, c9, rfl, l, hc⟩ := F.ex
  refine L2H.fn_ofH l hc S (fun vs H Q E z => z.1) fun A outer s H vs Q E p hot r z => ?_
  obtain ⟨hl, w, ds, h, ok, rv, q⟩ := z
  refine ⟨_, hbody f c7 A outer s H E p ⟨p, ⟨hot.1, hot.2⟩, List.mem_cons_self⟩ r, w, env0 N.length ds, h, ok, env0_ok rv, ?_⟩
  unfold run at q
  revert q
  cases b (env0 N.length ds) h with
  | nx e1 h1 => exact fun p σ' w' H' s ok' er' => p _ _ _ s ok' .non
  | bk e1 h1 => exact fun p => p.elim
  | ct e1 h1 => exact fun p => p.elim
  | rt e1 h1 => exact fun p => p
  | er c fs e1 h1 => exact fun p cv d σ' w' H' hc s ok' er' x => p cv d w' H' hc s ok' x
  | stuck => exact fun p => p
theorem OkH.zero {x : Str} {st : Stmt} {ps : List Str} {k n : Nat} (h : Has K mg x st ps) (hn : ps.length = n) : OkH P wd K mg base x k n (fun _ _ => .stuck) := by
  obtain ⟨f, fd, F, hf, hb⟩ := h
  subst hn
  exact ⟨f, fd, ps, hf, F.kp, hb, fun vs H Q E h => h.1, fun A outer s H args us vs Q E _ _ _ _ _ _ _ ⟨_, _, _, _, _, _, p⟩ => p.elim⟩
end
section
variable {X : Cx} {W : WX} {k j n : Nat} {x : Str} {p pos : Pos} {e : Expr} {es : List Expr} {m : MF} {ma : MA}
theorem e_fh (F : OkH X.prog X.w X.K X.mg X.base x k n m) (hr : L2H.RoomH j X.A) (hk : k ≤ j) (hc : L2H.HotC X) (tk : L2N.Takes X W) (ha : PA X (e :: es) (tA X.K X.mg W ma)) (hn : ∀ env h ds h', ma env h = .ok ds h' → ds.length = n) (hg : Gl X x) (hdb : (x == ("__debug__" : Str)) = false := by decide)
    (he : starEach (e :: es) X.env = (false, eval e X.env) :: starEach es X.env := by rfl) (hpl : (backTo pos (starEach es X.env)).any (·.1) = false := by rfl) : PE X (.Call (.Name x p) (e :: es) [] pos) (tE X.K X.mg W (mCall m ma)) := by
  obtain ⟨f, fd, ps, hm, kp, hb, F⟩ := F.ex
  exact PE.imp (L2H.pe_callH F (hr.mono hk) hc hg hm kp hb (fun σ => L2N.passAt tk σ) ha hdb he hpl) (t_call (fun _ _ _ h => h) hn)
end
/-- for k in range(n) there -/
theorem s_forh {X : Cx} {W : WX} {tg a : Expr} {body : List Stmt} {m : MA} {g : TG} {mg : MG} {vs : List Nat} {b : MS} {p pos2 pos : Pos} (hp : PassesOwn (model X.prog X.w) X.A X.env X.xe) (hc : L2H.HotC X) (hm : X.mg "range" = none) (hgl : Gl X "range") (ha : PA X [a] (tA X.K X.mg W m)) (hg : PG X tg g) (hb : TgS X.K g mg vs) (hbd : PSs X body (tS X.K X.mg W b))
    (hsa : starEach [a] X.env = [(false, eval a X.env)] := by rfl) (hs : ∀ x, foldedSetIterable (.Call (.Name "range" p) [a] [] pos2) X.env x = pure x := by intro _; rfl) : PS X (.For tg (.Call (.Name "range" p) [a] [] pos2) body [] pos) (tS X.K X.mg W (mFor (mRng rng1 m) mg b)) :=
  PS.imp (L2H.ps_forH hp hc (L2H.pi_range1H hgl hm ha hsa) hg hbd hs) (t_for (fun σ H Q ⟨w, env, h, ok, er, p⟩ => ⟨w, env, h, ok, er, Post.bind p fun vs ds w' H' h' s ok' vr p' => by
    obtain ⟨d, e, q⟩ := ofO_post p'
    unfold rng1 at e
    split at e
    · split at e
      · next c =>
        cases e
        obtain ⟨x, rfl, r⟩ := vrs1 vr
        cases r
        exact ⟨_, rfl, c.1, c.2, q _ _ _ (Step.refl _ _) ok' ⟨_, trivial, wk_rng⟩⟩
      · cases e
    · cases e⟩) hb fun _ _ _ h => h)

section
variable {X : Cx} {a : Addr} {oe : Obj} {pn : List (Addr × Obj)} {d : Option Addr} {i : Nat} {fs : Option (List (Str × D))}
theorem hot_suite {cv : Value} (hz : L2N.Zn cv d oe) (hf : ∃ vs, oe.data = .fields vs) : L2H.HotC (X.suite a ((a, oe) :: pn)) := by
  obtain ⟨vs, hv⟩ := hf
  exact ⟨(a, oe), ⟨rfl, vs, hv, hz.2.2 vs hv⟩, List.mem_cons_self⟩
theorem sp_call {k j n : Nat} {x : Str} {p pos : Pos} {e : Expr} {es : List Expr} {m : MF} {ma : MA} {cv : Value} (F : OkH X.prog X.w X.K X.mg X.base x k n m) (hr : Room j X.A) (hk : k ≤ j) (hz : L2N.Zn cv d oe) (hf : ∃ vs, oe.data = .fields vs) (ha : SPA X a oe pn d i fs (e :: es) ma) (hn : ∀ env h ds h', ma env h = .ok ds h' → ds.length = n) (hg : Gl X x) (hdb : (x == ("__debug__" : Str)) = false := by decide)
    (he : starEach (e :: es) (X.suite a ((a, oe) :: pn)).env = (false, eval e (X.suite a ((a, oe) :: pn)).env) :: starEach es (X.suite a ((a, oe) :: pn)).env := by rfl) (hpl : (backTo pos (starEach es (X.suite a ((a, oe) :: pn)).env)).any (·.1) = false := by rfl) : SPE X a oe pn d i fs (.Call (.Name x p) (e :: es) [] pos) (mCall m ma) := by
  obtain ⟨f, fd, ps, hm, kp, hb, F⟩ := F.ex
  obtain ⟨t, ht, s⟩ := ha
  have hr2 : L2H.RoomH k (X.suite a ((a, oe) :: pn)).A := ⟨by have := (hr.mono hk).dp; exact this, by have := (hr.mono hk).un; exact this⟩
  refine ⟨_, L2H.pe_callH (X := X.suite a ((a, oe) :: pn)) (E := fun _ _ _ _ => False) F hr2 (hot_suite hz hf) hg hm kp hb (fun σ => L2N.passAt (W := W0) none_out σ) ht hdb he hpl, fun w σ H env h Q ok er sl xr q => s w σ H env h _ ok er sl xr ?_⟩
  have hn' := hn env h
  unfold mCall at q
  revert q hn'
  cases ma env h with
  | ok ds h1 => exact fun q hn' v w' H' st ok' vr => ⟨by rw [vr.length]; exact hn' ds h1 rfl, w', ds, h1, ok', vr, Post.step st q⟩
  | err c fs h1 => exact fun q _ => q
  | stuck => exact fun q _ => q
end
/-! ### ord, partition, chains -/
def dOrd : List D → Hap → Option D := fun ds _ => match ds with
  | [.str x] => if x.length = 1 then some (.int (x.cps.getD 0 0 : Nat)) else none
  | _ => none
theorem s_ord {K : PySem.W.Frag} : CallS K (fun xs H Q => ∃ x, xs = [.str x] ∧ x.length = 1 ∧ Q (.int (x.cps.getD 0 0 : Nat)) H) dOrd := by
  intro w H h xs ds d Q ok vr e q
  unfold dOrd at e
  split at e
  · split at e
    · next hl =>
      cases e
      obtain ⟨x, rfl, r⟩ := vrs1 vr
      cases r
      exact ⟨_, rfl, hl, q _ _ _ (Step.refl _ _) ok (.int _)⟩
    · cases e
  · cases e
def dPartition : D → List D → Hap → Option D := fun a ds _ => match a, ds with
  | .str a, [.str b] => if (b.length == 0) = false ∧ a.length ≤ sizeLine then some (.tup [.str (Txt.partition a b).1, .str (Txt.partition a b).2.1, .str (Txt.partition a b).2.2]) else none
  | _, _ => none
theorem s_partition {K : PySem.W.Frag} : PMetS K (fun x xs H Q => ∃ a b, x = .str a ∧ xs = [.str b] ∧ (b.length == 0) = false ∧ a.length ≤ sizeLine ∧ ∀ p, H p = none → Q (.ref p) (upd H p (.tup [.str (Txt.partition a b).1, .str (Txt.partition a b).2.1, .str (Txt.partition a b).2.2]))) dPartition := by
  intro w H h x xs a ds d Q ok r1 r2 e q
  unfold dPartition at e
  split at e
  · split at e
    · next c =>
      cases e
      obtain ⟨y, rfl, r3⟩ := vrs1 r2
      cases r1
      cases r3
      exact ⟨_, _, rfl, rfl, c.1, c.2, fun p hp => q _ _ _ (ok.alloc hp).2 (ok.alloc hp).1 (vr_tup ok hp (.cons (.str _) (.cons (.str _) (.cons (.str _) .nil))))⟩
    · cases e
  · cases e
/-- a op1 b op2 c -/
def mChn (g g' : D → D → Hap → Option D) (a b c : ME) : ME := fun env h => (a env h).bind fun x h1 => (b env h1).bind fun y h2 => (ofO (g x y h2) h2).bind fun z h3 => match z with
  | .bl true => (c env h3).bind fun u h4 => ofO (g' y u h4) h4
  | .bl false => .ok (.bl false) h3
  | _ => .stuck
theorem t_chn {K : PySem.W.Frag} {W : WX} {r r' : R2} {g g' : D → D → Hap → Option D} {a b c : ME} (s : OpS K r g) (s' : OpS K r' g') : ∀ σ H Q, tE K gm W (mChn g g' a b c) σ H Q → tChain r r' (tE K gm W a) (tE K gm W b) (tE K gm W c) σ H Q := fun σ H Q ⟨w, env, h, ok, er, p⟩ =>
  ⟨w, env, h, ok, er, Post.bind p fun x da w1 H1 h1 s1 ok1 v1 p1 => ⟨w1, env, h1, ok1, er.mono s1, Post.bind p1 fun y db w2 H2 h2 s2 ok2 v2 p2 => by
    cases e : g da db h2 with
    | none => rw [e] at p2; exact p2.elim
    | some z =>
      rw [e] at p2
      refine s w2 H2 h2 x y da db z _ ok2 (v1.mono s2) v2 e fun v w3 H3 s3 ok3 v3 => ?_
      have p3 := Post.step s3 p2
      cases v3 <;> try exact p3.elim
      next k =>
      refine ⟨k, rfl, ?_⟩
      cases k with
      | false => exact p3.ok ok3 (.bl false)
      | true =>
        rw [if_pos rfl]
        exact ⟨w3, env, h2, ok3, ((er.mono s1).mono s2).mono s3, Post.bind p3 fun u du w4 H4 h4 s4 ok4 v4 p4 => by
          obtain ⟨d, e, q⟩ := ofO_post p4
          exact s' w4 H4 h4 y u db du d Q ok4 ((v2.mono s3).mono s4) v4 e q⟩⟩⟩
theorem e_chn {X : Cx} {W : WX} {op op' : CmpOp} {r r' : R2} {g g' : D → D → Hap → Option D} {a b c : Expr} {ma mb mc : ME} {pos : Pos} (ho : OpR X (compareOp op) r) (s : OpS X.K r g) (ho' : OpR X (compareOp op') r') (s' : OpS X.K r' g') (ha : PE X a (tE X.K X.mg W ma)) (hb : PE X b (tE X.K X.mg W mb)) (hc : PE X c (tE X.K X.mg W mc))
    (hm : lastMarks [op, op'] [b, c] = false := by with_unfolding_all rfl) : PE X (.Compare a [op, op'] [b, c] pos) (tE X.K X.mg W (mChn g g' ma mb mc)) := PE.imp (pe_chain ho ho' ha hb hc hm) (t_chn s s')
theorem c_chn {X : Cx} {W : WX} {op op' : CmpOp} {r r' : R2} {g g' : D → D → Hap → Option D} {a b c : Expr} {ma mb mc : ME} {pos : Pos} (ho : OpR X (compareOp op) r) (s : OpS X.K r g) (ho' : OpR X (compareOp op') r') (s' : OpS X.K r' g') (ha : PE X a (tE X.K X.mg W ma)) (hb : PE X b (tE X.K X.mg W mb)) (hc : PE X c (tE X.K X.mg W mc))
    (hm : lastMarks [op, op'] [b, c] = false := by with_unfolding_all rfl) : PT X (.Compare a [op, op'] [b, c] pos) (tT X.K X.mg W (mTst (mChn g g' ma mb mc))) := PT.imp (pt_chain ho ho' ha hb hc hm) (t_tst (t_chn s s'))
/-! ### __init__ of an own exception class -/
def inner (s : Stmt) : Stmt := match s with
  | .ClassDef (body := b :: _) .. => b
  | s => s
theorem hunits {k : Nat} {A : Around} (r : L2H.RoomH k A) : A.units + 64 < cLine := by
  have := r.un
  omega
section
variable {K : PySem.W.Frag} {C a : Addr} {f0 f1 f2 : Str} {w0 w1 w2 : V} {H : Hp} {Q : VK} {D : Ends} {n0 : Str}
theorem two_upd {d : Addr} {x y z : HO} (h : d ≠ a) : upd (upd (upd H d x) a y) d z = upd (upd H d z) a y := by
  funext b
  by_cases hb : b = d
  · subst hb
    rw [upd_same, upd_ne h, upd_same]
  · rw [upd_ne hb]
    by_cases ha : b = a
    · rw [ha, upd_same, upd_same]
    · rw [upd_ne ha, upd_ne ha, upd_ne hb, upd_ne hb]
theorem ini_1 (T : OexC K C) (hn : ∀ f ∈ [f0], PySem.W.findIn K (.ref C) f = some none) (e : H a = some (exo a C none)) (q : ∀ d, H d = none → d ≠ a → Q .non (upd (upd H d (exd d ([f0].zip [w0]).reverse)) a (exo a C (some d)))) (hD : ∀ σ H', Q .non H' → D.nx σ H') :
    tOst K f0 (tVar 0) (tVar 1) D (L2.start [n0, f0] [.ref a, w0]) H :=
  ⟨w0, rfl, .ref a, rfl, a, C, rfl, T, hn _ (by simp), .inl ⟨e, fun d hd hda => hD _ _ (q d hd hda)⟩⟩
theorem ini_2 (T : OexC K C) (hn : ∀ f ∈ [f0, f1], PySem.W.findIn K (.ref C) f = some none) (e : H a = some (exo a C none)) (q : ∀ d, H d = none → d ≠ a → Q .non (upd (upd H d (exd d ([f0, f1].zip [w0, w1]).reverse)) a (exo a C (some d)))) (hD : ∀ σ H', Q .non H' → D.nx σ H') :
    tSeq (tOst K f0 (tVar 0) (tVar 1)) (tOst K f1 (tVar 0) (tVar 2)) D (L2.start [n0, f0, f1] [.ref a, w0, w1]) H :=
  ⟨w0, rfl, .ref a, rfl, a, C, rfl, T, hn _ (by simp), .inl ⟨e, fun d hd hda => ⟨w1, rfl, .ref a, rfl, a, C, rfl, T, hn _ (by simp), .inr ⟨d, _, upd_same, by rw [upd_ne hda, upd_same], by simp, by
    rw [two_upd hda]
    exact hD _ _ (q d hd hda)⟩⟩⟩⟩
theorem ini_3 (T : OexC K C) (hn : ∀ f ∈ [f0, f1, f2], PySem.W.findIn K (.ref C) f = some none) (e : H a = some (exo a C none)) (q : ∀ d, H d = none → d ≠ a → Q .non (upd (upd H d (exd d ([f0, f1, f2].zip [w0, w1, w2]).reverse)) a (exo a C (some d)))) (hD : ∀ σ H', Q .non H' → D.nx σ H') :
    tSeq (tOst K f0 (tVar 0) (tVar 1)) (tSeq (tOst K f1 (tVar 0) (tVar 2)) (tOst K f2 (tVar 0) (tVar 3))) D (L2.start [n0, f0, f1, f2] [.ref a, w0, w1, w2]) H :=
  ⟨w0, rfl, .ref a, rfl, a, C, rfl, T, hn _ (by simp), .inl ⟨e, fun d hd hda => ⟨w1, rfl, .ref a, rfl, a, C, rfl, T, hn _ (by simp), .inr ⟨d, _, upd_same, by rw [upd_ne hda, upd_same], by simp, ⟨w2, rfl, .ref a, rfl, a, C, rfl, T, hn _ (by simp), .inr ⟨d, _, by rw [two_upd hda, upd_same], by rw [two_upd hda, upd_ne hda, upd_same], by simp, by
    rw [two_upd hda, two_upd hda]
    exact hD _ _ (q d hd hda)⟩⟩⟩⟩⟩⟩
end
end
end Vi

set_option Elab.async false
set_option linter.all false
set_option autoImplicit false
set_option maxRecDepth 100000
set_option maxHeartbeats 2000000
namespace Vi
open PySem PySem.Spec PyProof.Rows L2
open scoped Classical
noncomputable section
variable {gm : Str → Option Value}
/-! ### f"text{x}" -/
def fmtD : D → Option Str
  | .str y => if y.length ≤ sizeLine then some y else none
  | .int i => if i.natAbs.log2 < 1920 then some (toString i : Str) else none
  | _ => none
def mFs (c : Str) (b : ME) : ME := fun env h => if c.length ≤ sizeLine then (b env h).bind fun d h1 => ofO ((fmtD d).bind fun y => if c.length + y.length ≤ sizeLine then some (D.str (c ++ y)) else none) h1 else .stuck
theorem empty_app (c : Str) : (Str.empty ++ c : Str) = c := TL.ext_tl (by rw [TL.tl_append]; rfl)
theorem len_ap (x y : Str) : (x ++ y).length = x.length + y.length := by rw [TL.len_tl, TL.tl_append, List.length_append, ← TL.len_tl, ← TL.len_tl]
section
variable {X : Cx} {W : WX}
theorem e_fs {c : Str} {j : Nat} {p1 p2 pos : Pos} {e : Expr} {b : ME} (hb : PE X e (tE X.K X.mg W b)) : PE X (.JoinedStr [.Constant (.str c) j p1, .FormattedValue e (-1) none p2] pos) (tE X.K X.mg W (mFs c b)) := by
  refine PE.imp (pe_joined (.cons pe_str (.cons (pe_fmt hb) .nil))) fun σ H Q hq => ?_
  obtain ⟨w, env, h, ok, er, p⟩ := hq
  unfold mFs at p
  split at p
  · next hc =>
    show ∃ y : Str, V.str c = .str y ∧ (Str.empty ++ y).length ≤ sizeLine ∧ _
    refine ⟨c, rfl, by rw [empty_app]; exact hc, ?_⟩
    rw [empty_app]
    refine ⟨w, env, h, ok, er, Post.bind p fun x d w1 H1 h1 s1 ok1 v1 p1 => ?_⟩
    obtain ⟨d2, e2, q⟩ := ofO_post p1
    cases ef : fmtD d with
    | none => rw [ef] at e2; cases e2
    | some y =>
      rw [ef] at e2
      have e2 : (if c.length + y.length ≤ sizeLine then some (D.str (c ++ y)) else none) = some d2 := e2
      split at e2
      · next hl =>
        cases e2
        unfold fmtD at ef
        split at ef
        · next z =>
          split at ef
          · next hz =>
            cases ef
            cases v1
            exact .inl ⟨y, rfl, hz, y, rfl, by rw [len_ap]; exact hl, q _ _ _ (Step.refl _ _) ok1 (.str _)⟩
          · cases ef
        · next i =>
          split at ef
          · next hz =>
            cases ef
            cases v1
            exact .inr ⟨i, rfl, hz, toString i, rfl, by rw [len_ap]; exact hl, q _ _ _ (Step.refl _ _) ok1 (.str _)⟩
          · cases ef
        · cases ef
      · cases e2
  · exact p.elim
end
/-! ### xs.extend(ys), xs.pop(i) -/
def gExtend : D → List D → Hap → Rs D := fun a ds h => match a, ds with
  | .ref i, [d] => match h[i]?, getM d h with
    | some (.lst xs), some zs => if xs.length + zs.length ≤ sizeLine then .ok .non (h.set i (.lst (xs ++ zs))) else .stuck
    | _, _ => .stuck
  | _, _ => .stuck
theorem s_extend {K : PySem.W.Frag} : MetS K gm rExtend gExtend := by
  intro w H h x xs a ds Q E ok r1 r2 p
  unfold gExtend at p
  split at p
  · next i d =>
    split at p
    · next zs ys e1 eM =>
      split at p
      · next hl =>
        obtain ⟨v, rfl, r3⟩ := vrs1 r2
        cases r1
        next a e2 =>
        obtain ⟨_, o, e3, e4⟩ := ok.cel i a _ e2 e1
        cases o <;> simp [CRel] at e4
        next vs =>
        obtain ⟨b, us, rfl, e5, e6⟩ := getM_ok ok r3 eM
        have q := ok.write (o := .lst (vs ++ us)) (c := .lst (zs ++ ys)) e2 (VRs.append e4 e6)
        exact ⟨a, b, vs, us, rfl, rfl, e3, e5, by rw [e4.length, e6.length]; exact hl, p _ _ _ q.2 q.1 .non⟩
      · exact p.elim
    · exact p.elim
  · exact p.elim
def gPopAt : D → List D → Hap → Rs D := fun a ds h => match a, ds with
  | .ref i, [.int j] => match h[i]? with
    | some (.lst xs) => if 0 ≤ j ∧ j < 2 ^ 63 then (match xs[j.toNat]? with
        | some y => .ok y (h.set i (.lst (xs.eraseIdx j.toNat)))
        | none => .stuck) else .stuck
    | _ => .stuck
  | _, _ => .stuck
theorem VRs.erase {K : PySem.W.Frag} {w : Wd} : ∀ {vs : List V} {ds : List D} (n : Nat), VRs K w vs ds → VRs K w (vs.eraseIdx n) (ds.eraseIdx n)
  | _, _, n, .nil => by simpa using VRs.nil
  | _, _, 0, .cons r rs => rs
  | _, _, n + 1, .cons r rs => .cons r (VRs.erase n rs)
theorem s_popAt {K : PySem.W.Frag} : MetS K gm rPopAt gPopAt := by
  intro w H h x xs a ds Q E ok r1 r2 p
  unfold gPopAt at p
  split at p
  · next i j =>
    split at p
    · next zs e1 =>
      split at p
      · next hj =>
        split at p
        · next y ey =>
          obtain ⟨v, rfl, r3⟩ := vrs1 r2
          cases r3
          cases r1
          next a e2 =>
          obtain ⟨_, o, e3, e4⟩ := ok.cel i a _ e2 e1
          cases o <;> simp [CRel] at e4
          next vs =>
          have hlt : j.toNat < zs.length := (List.getElem?_eq_some_iff.mp ey).1
          obtain ⟨u, eu, ru⟩ := e4.get' ey
          have q := ok.write (o := .lst (vs.eraseIdx j.toNat)) (c := .lst (zs.eraseIdx j.toNat)) e2 (VRs.erase _ e4)
          refine ⟨a, vs, j, j.toNat, u, rfl, rfl, e3, by omega, hj.2, ?_, eu, p _ _ _ q.2 q.1 (ru.mono q.2)⟩
          have hl := e4.length
          have hj1 := hj.1
          unfold seqIndex?
          have n0 : ¬ j < 0 := by omega
          have n1 : (decide (0 ≤ j) && decide (j < (vs.length : Int))) = true := by
            rw [Bool.and_eq_true, decide_eq_true_iff, decide_eq_true_iff]
            omega
          simp only [if_neg n0]
          exact if_pos n1
        · exact p.elim
      · exact p.elim
    · exact p.elim
  · exact p.elim
/-! ### int(text) -/
def dIntS : List D → Hap → Option D := fun ds h => match ds with
  | [.str z] => if z.length ≤ 640 then (PySem.intText? z).map .int else none
  | ds => dInt ds h
theorem call_intS {X : Cx} : CallR X (.type "int") (fun xs H Q => ((∃ i, xs = [.int i] ∧ Q (.int i) H) ∨ ∃ k, xs = [.bl k] ∧ Q (.int (if k then 1 else 0)) H) ∨ ∃ a n, xs = [.str a] ∧ PySem.intText? a = some n ∧ a.length ≤ 640 ∧ Q (.int n) H) := CallR.or call_int1 call_int_str
theorem s_intS {K : PySem.W.Frag} : CallS K (fun xs H Q => ((∃ i, xs = [.int i] ∧ Q (.int i) H) ∨ ∃ k, xs = [.bl k] ∧ Q (.int (if k then 1 else 0)) H) ∨ ∃ a n, xs = [.str a] ∧ PySem.intText? a = some n ∧ a.length ≤ 640 ∧ Q (.int n) H) dIntS := by
  intro w H h xs ds d Q ok vr e q
  unfold dIntS at e
  split at e
  · next z =>
    split at e
    · next hz =>
      obtain ⟨x, rfl, r⟩ := vrs1 vr
      cases r
      cases eq : PySem.intText? z with
      | none => rw [eq] at e; cases e
      | some n =>
        rw [eq] at e
        cases e
        exact .inr ⟨z, n, rfl, eq, hz, q _ _ _ (Step.refl _ _) ok (.int _)⟩
    · cases e
  · exact .inl (s_int w H h xs ds d Q ok vr e q)
end
end Vi

set_option Elab.async false
set_option linter.all false
set_option autoImplicit false
set_option maxRecDepth 100000
set_option maxHeartbeats 2000000
namespace Vi
open PySem PySem.Spec PyProof.Rows L2
open scoped Classical
noncomputable section
variable {gm : Str → Option Value}
/-! ### dicts as cells, keys ints or texts -/
def getD (d : D) (h : Hap) : Option (List (Key × D)) := match d with
  | .ref i => match h[i]? with
    | some (.dct kvs) => some kvs
    | _ => none
  | _ => none
def keyD : D → Option Key
  | .int i => some (.inl i)
  | .str x => some (.inr x)
  | _ => none
def keyV : Key → D
  | .inl i => .int i
  | .inr x => .str x
def valD (kvs : List (Key × D)) (k : Key) : Option D := (kvs.find? fun kv => decide (kv.1 = k)).map (·.2)
def putD (kvs : List (Key × D)) (k : Key) (v : D) : List (Key × D) :=
  if (kvs.any fun kv => decide (kv.1 = k)) = true then kvs.map (fun kv => if kv.1 = k then (kv.1, v) else kv) else kvs ++ [(k, v)]
def dropD (kvs : List (Key × D)) (k : Key) : List (Key × D) := kvs.filter fun kv => decide (kv.1 ≠ k)
section
variable {K : PySem.W.Frag}
inductive KVR (K : PySem.W.Frag) (w : Wd) : List (Key × V) → List (Key × D) → Prop
  | nil : KVR K w [] []
  | cons {k : Key} {v : V} {d : D} {vs : List (Key × V)} {ds : List (Key × D)} : VR K w v d → KVR K w vs ds → KVR K w ((k, v) :: vs) ((k, d) :: ds)
variable {w : Wd}
theorem kvr_of : ∀ {vs : List (Key × V)} {ds : List (Key × D)}, vs.map Prod.fst = ds.map Prod.fst → VRs K w (vs.map Prod.snd) (ds.map Prod.snd) → KVR K w vs ds
  | [], [], _, _ => .nil
  | [], _ :: _, h, _ => by simp at h
  | _ :: _, [], h, _ => by simp at h
  | (k, v) :: vs, (k2, d) :: ds, h, r => by
    simp only [List.map_cons, List.cons.injEq] at h
    obtain ⟨rfl, h⟩ := h
    rw [List.map_cons, List.map_cons] at r
    cases r with
    | cons a b => exact .cons a (kvr_of h b)
theorem KVR.fst : ∀ {vs : List (Key × V)} {ds : List (Key × D)}, KVR K w vs ds → vs.map Prod.fst = ds.map Prod.fst
  | _, _, .nil => rfl
  | _, _, .cons _ t => by rw [List.map_cons, List.map_cons, t.fst]
theorem KVR.snd : ∀ {vs : List (Key × V)} {ds : List (Key × D)}, KVR K w vs ds → VRs K w (vs.map Prod.snd) (ds.map Prod.snd)
  | _, _, .nil => .nil
  | _, _, .cons a t => by rw [List.map_cons, List.map_cons]; exact .cons a t.snd
theorem KVR.len {vs : List (Key × V)} {ds : List (Key × D)} (r : KVR K w vs ds) : vs.length = ds.length := by
  have := congrArg List.length r.fst
  simpa using this
theorem KVR.mono {w' : Wd} {H H' : Hp} (s : Step w H w' H') : ∀ {vs : List (Key × V)} {ds : List (Key × D)}, KVR K w vs ds → KVR K w' vs ds
  | _, _, .nil => .nil
  | _, _, .cons a t => .cons (a.mono s) (t.mono s)
theorem KVR.val : ∀ {vs : List (Key × V)} {ds : List (Key × D)} (k : Key), KVR K w vs ds → (valV vs k = none ∧ valD ds k = none) ∨ ∃ v d, valV vs k = some v ∧ valD ds k = some d ∧ VR K w v d
  | _, _, _, .nil => .inl ⟨rfl, rfl⟩
  | (k0, v) :: vs, (_, d) :: ds, k, .cons a t => by
    unfold valV valD
    by_cases e : k0 = k
    · right
      exact ⟨v, d, by simp [List.find?_cons, e], by simp [List.find?_cons, e], a⟩
    · rcases KVR.val k t with ⟨h1, h2⟩ | ⟨v2, d2, h1, h2, h3⟩
      · left
        unfold valV at h1
        unfold valD at h2
        simp only [List.find?_cons, e, decide_false]
        exact ⟨h1, h2⟩
      · right
        unfold valV at h1
        unfold valD at h2
        simp only [List.find?_cons, e, decide_false]
        exact ⟨v2, d2, h1, h2, h3⟩
theorem KVR.any : ∀ {vs : List (Key × V)} {ds : List (Key × D)} (k : Key), KVR K w vs ds → (vs.any fun kv => decide (kv.1 = k)) = ds.any fun kv => decide (kv.1 = k)
  | _, _, _, .nil => rfl
  | _, _, k, .cons a t => by rw [List.any_cons, List.any_cons, KVR.any k t]
theorem KVR.repl {v0 : V} {d0 : D} (r : VR K w v0 d0) (k : Key) : ∀ {vs : List (Key × V)} {ds : List (Key × D)}, KVR K w vs ds → KVR K w (vs.map fun kv => if kv.1 = k then (kv.1, v0) else kv) (ds.map fun kv => if kv.1 = k then (kv.1, d0) else kv)
  | _, _, .nil => .nil
  | (k0, _) :: _, _, .cons a t => by
    rw [List.map_cons, List.map_cons]
    by_cases e : k0 = k
    · simp only [e, if_true]
      exact .cons r (KVR.repl r k t)
    · simp only [e, if_false]
      exact .cons a (KVR.repl r k t)
theorem KVR.app : ∀ {vs vs' : List (Key × V)} {ds ds' : List (Key × D)}, KVR K w vs ds → KVR K w vs' ds' → KVR K w (vs ++ vs') (ds ++ ds')
  | _, _, _, _, .nil, t => t
  | _, _, _, _, .cons a b, t => .cons a (KVR.app b t)
theorem KVR.put {v0 : V} {d0 : D} (r : VR K w v0 d0) (k : Key) {vs : List (Key × V)} {ds : List (Key × D)} (t : KVR K w vs ds) : KVR K w (putK vs k v0) (putD ds k d0) := by
  unfold putK putD
  rw [t.any k]
  by_cases c : (ds.any fun kv => decide (kv.1 = k)) = true
  · rw [if_pos c, if_pos c]
    exact t.repl r k
  · rw [if_neg c, if_neg c]
    exact t.app (.cons r .nil)
theorem KVR.drop (k : Key) : ∀ {vs : List (Key × V)} {ds : List (Key × D)}, KVR K w vs ds → KVR K w (dropK vs k) (dropD ds k)
  | _, _, .nil => .nil
  | (k0, _) :: _, _, .cons a t => by
    unfold dropK dropD
    rw [List.filter_cons, List.filter_cons]
    by_cases e : k0 = k
    · simp only [e, ne_eq, not_true, decide_false]
      exact KVR.drop k t
    · simp only [e, ne_eq, not_false_iff, decide_true, if_true]
      exact .cons a (KVR.drop k t)
variable {H : Hp} {h : Hap} {x : V} {d : D} {ds : List (Key × D)}
theorem getD_ok (ok : Ok K w H h) (r : VR K w x d) (e : getD d h = some ds) : ∃ a i vs, x = .ref a ∧ d = .ref i ∧ w.ρ[i]? = some a ∧ h[i]? = some (.dct ds) ∧ H a = some (.dK vs) ∧ KVR K w vs ds := by
  cases r <;> simp [getD] at e
  next a i e1 =>
  split at e
  · next xs e2 =>
    cases e
    obtain ⟨_, o, e3, e4⟩ := ok.cel i a _ e1 e2
    cases o <;> simp [CRel] at e4
    next vs => exact ⟨a, i, vs, rfl, rfl, e1, e2, e3, kvr_of e4.1 e4.2⟩
  · cases e
theorem getD_ref {i : Nat} (e : getD (.ref i) h = some ds) : h[i]? = some (.dct ds) := by
  unfold getD at e
  dsimp only at e
  split at e
  · next q => cases e; exact q
  · cases e
theorem keyD_ok {k : Key} (r : VR K w x d) (e : keyD d = some k) : x = kV k := by
  cases r <;> simp [keyD] at e <;> subst e <;> rfl
theorem vr_keyV (k : Key) : VR K w (kV k) (keyV k) := by
  cases k with
  | inl i => exact .int i
  | inr i => exact .str i
theorem Ok.dwrite {i : Nat} {a : Addr} {vs : List (Key × V)} (ok : Ok K w H h) (hi : w.ρ[i]? = some a) (r : KVR K w vs ds) : Ok K w (upd H a (.dK vs)) (h.set i (.dct ds)) ∧ Step w H w (upd H a (.dK vs)) := ok.write hi ⟨r.fst, r.snd⟩
/-- frozen objects, many at once -/
theorem Ok.grow {F' : Hp} {H' : Hp} (ok : Ok K w H h) (hk : ∀ a o, H a = some o → H' a = some o) (f1 : ∀ a o, w.F a = some o → F' a = some o) (f2 : ∀ a o, F' a = some o → H' a = some o) (f3 : ∀ a o, F' a = some o → w.F a = some o ∨ H a = none) :
    Ok K ⟨F', w.ρ⟩ H' h ∧ Step w H ⟨F', w.ρ⟩ H' := by
  refine ⟨⟨f2, ok.len, fun i a c e1 e2 => ?_, ok.nd⟩, ⟨f1, ⟨[], by simp⟩, fun a o _ e => hk a o e, fun a e => ?_, fun a m => .inl m, f3⟩⟩
  · obtain ⟨z, u, e3, e4⟩ := ok.cel i a c e1 e2
    refine ⟨?_, u, hk _ _ e3, CRel.mono' (w := w) (w' := ⟨F', w.ρ⟩) f1 (fun _ _ e => e) e4⟩
    show F' a = none
    cases q : F' a with
    | none => rfl
    | some o =>
      rcases f3 a o q with z2 | z2
      · rw [z] at z2; cases z2
      · rw [e3] at z2; cases z2
  · cases q : H a with
    | none => exact absurd q e
    | some o => rw [hk _ _ q]; exact fun z => nomatch z
end
/-! {} -/
def mDNew : ME := fun _ h => .ok (.ref h.length) (h ++ [.dct []])
section
variable {X : Cx} {W : WX}
theorem e_dnew {pos : Pos} : PE X (.Dict [] [] pos) (tE X.K X.mg W mDNew) := PE.imp pe_dnewK fun σ H Q ⟨w, env, h, ok, er, p⟩ a ha => by
  have q := ok.cell (c := .dct []) (o := .dK []) ha ⟨rfl, .nil⟩
  refine p _ _ _ q.2 q.1 (.ref ?_)
  show (w.ρ ++ [a])[h.length]? = some a
  rw [← ok.len, List.getElem?_append_right (Nat.le_refl _), Nat.sub_self]
  rfl
/-! d[k], k in d, k not in d -/
def dDGet : D → D → Hap → Option D := fun a b h => match getD a h, keyD b with
  | some kvs, some k => valD kvs k
  | _, _ => none
def rDGet : R2 := fun x y H Q => ∃ a v, x = .ref a ∧ DGet H a y (some v) ∧ Q v H
theorem s_dget {K : PySem.W.Frag} : OpS K rDGet dDGet := by
  intro w H h x y a b d Q ok vx vy e q
  unfold dDGet at e
  split at e
  · next kvs k e1 e2 =>
    obtain ⟨p, i, vs, rfl, rfl, h1, h2, h3, r⟩ := getD_ok ok vx e1
    have q1 := keyD_ok vy e2
    subst q1
    rcases r.val k with ⟨z1, z2⟩ | ⟨v, d2, z1, z2, z3⟩
    · rw [e] at z2; cases z2
    · rw [e] at z2
      cases z2
      exact ⟨p, v, rfl, z1 ▸ DGet.k h3, q _ _ _ (Step.refl _ _) ok z3⟩
  · cases e
theorem e_dget {o i : Expr} {mo mi : ME} {pos : Pos} (hu : X.A.units + 64 < cLine) (ho : PE X o (tE X.K X.mg W mo)) (hi : PE X i (tE X.K X.mg W mi)) (hs : NoSl i) : PE X (.Subscript o i pos) (tE X.K X.mg W (mBin dDGet mo mi)) :=
  PE.imp (pe_dget (by omega) ho hi hs) (t_bin s_dget)
def dDIn : D → D → Hap → Option D := fun b a h => match getD a h, keyD b with
  | some kvs, some k => some (.bl (valD kvs k).isSome)
  | _, _ => none
def dDNotIn : D → D → Hap → Option D := fun b a h => match getD a h, keyD b with
  | some kvs, some k => some (.bl (!(valD kvs k).isSome))
  | _, _ => none
def rDIn : R2 := fun y x H Q => ∃ a o, x = .ref a ∧ DGet H a y o ∧ Q (.bl o.isSome) H
def rDNotIn : R2 := fun y x H Q => ∃ a o, x = .ref a ∧ DGet H a y o ∧ Q (.bl (!o.isSome)) H
theorem op_din (hu : X.A.units + 64 < cLine) : OpR X (compareOp .In) rDIn := by
  intro pins s σ H x y v u Q I rx ry h
  obtain ⟨a, o, rfl, g, q⟩ := h
  obtain rfl : u = Value.ref a := ry
  exact d_in (by omega) I g rx fun s' I' => ⟨.bl o.isSome, H, I', rfl, q⟩
theorem op_dnotin (hu : X.A.units + 64 < cLine) : OpR X (compareOp .NotIn) rDNotIn := by
  intro pins s σ H x y v u Q I rx ry h
  obtain ⟨a, o, rfl, g, q⟩ := h
  obtain rfl : u = Value.ref a := ry
  exact d_notIn (by omega) I g rx fun s' I' => ⟨.bl (!o.isSome), H, I', rfl, q⟩
theorem KVR.isSome {K : PySem.W.Frag} {w : Wd} {vs : List (Key × V)} {ds : List (Key × D)} (r : KVR K w vs ds) (k : Key) : (valV vs k).isSome = (valD ds k).isSome := by
  rcases r.val k with ⟨z1, z2⟩ | ⟨v, d2, z1, z2, z3⟩ <;> rw [z1, z2] <;> rfl
theorem s_din {K : PySem.W.Frag} : OpS K rDIn dDIn := by
  intro w H h x y a b d Q ok vx vy e q
  unfold dDIn at e
  split at e
  · next kvs k e1 e2 =>
    cases e
    obtain ⟨p, i, vs, rfl, rfl, h1, h2, h3, r⟩ := getD_ok ok vy e1
    have q1 := keyD_ok vx e2
    subst q1
    exact ⟨p, _, rfl, DGet.k h3, by rw [r.isSome k]; exact q _ _ _ (Step.refl _ _) ok (.bl _)⟩
  · cases e
theorem s_dnotin {K : PySem.W.Frag} : OpS K rDNotIn dDNotIn := by
  intro w H h x y a b d Q ok vx vy e q
  unfold dDNotIn at e
  split at e
  · next kvs k e1 e2 =>
    cases e
    obtain ⟨p, i, vs, rfl, rfl, h1, h2, h3, r⟩ := getD_ok ok vy e1
    have q1 := keyD_ok vx e2
    subst q1
    exact ⟨p, _, rfl, DGet.k h3, by rw [r.isSome k]; exact q _ _ _ (Step.refl _ _) ok (.bl _)⟩
  · cases e
/-! len(d) -/
def dDLen : List D → Hap → Option D := fun ds h => match ds with
  | [d] => (getD d h).map fun kvs => .int kvs.length
  | _ => none
theorem s_dlen {K : PySem.W.Frag} : CallS K (fun xs H Q => ∃ a kvs, xs = [V.ref a] ∧ H a = some (.dK kvs) ∧ Q (.int kvs.length) H) dDLen := by
  intro w H h xs ds d Q ok vr e q
  unfold dDLen at e
  split at e
  · obtain ⟨x, rfl, r⟩ := vrs1 vr
    obtain ⟨kvs, e1, e2⟩ := Option.map_eq_some_iff.mp e
    subst e2
    obtain ⟨p, i, vs, rfl, rfl, h1, h2, h3, r2⟩ := getD_ok ok r e1
    exact ⟨p, vs, rfl, h3, by rw [r2.len]; exact q _ _ _ (Step.refl _ _) ok (.int _)⟩
  · cases e
/-! list(d) -/
def dDList : List D → Hap → Option D := fun ds h => match ds with
  | [d] => (getD d h).map fun kvs => .lst (kvs.map fun kv => keyV kv.1)
  | _ => none
theorem KVR.keys {K : PySem.W.Frag} {w : Wd} : ∀ {vs : List (Key × V)} {ds : List (Key × D)}, KVR K w vs ds → VRs K w (vs.map fun kv => kV kv.1) (ds.map fun kv => keyV kv.1)
  | _, _, .nil => .nil
  | _, _, .cons _ t => .cons (vr_keyV _) t.keys
theorem s_dlist {K : PySem.W.Frag} : CallS K rListD dDList := by
  intro w H h xs ds d Q ok vr e q
  unfold dDList at e
  split at e
  · obtain ⟨x, rfl, r⟩ := vrs1 vr
    obtain ⟨kvs, e1, e2⟩ := Option.map_eq_some_iff.mp e
    subst e2
    obtain ⟨p, i, vs, rfl, rfl, h1, h2, h3, r2⟩ := getD_ok ok r e1
    exact ⟨p, vs, rfl, h3, fun l hl => q _ _ _ (ok.alloc hl).2 (ok.alloc hl).1 (vr_lst ok hl r2.keys)⟩
  · cases e
/-! d[k] = v, del d[k] -/
def sDix : D → D → D → Hap → Option Hap := fun o i v h => match o, keyD i with
  | .ref j, some k => match h[j]? with
    | some (.dct kvs) => if kvs.length < sizeLine then some (h.set j (.dct (putD kvs k v))) else none
    | _ => none
  | _, _ => none
def mDSub (a o i : ME) : MS := fun env h => RsS (a env h) env fun d h1 => RsS (o env h1) env fun od h2 => RsS (i env h2) env fun id h3 => match sDix od id d h3 with
  | some h4 => .nx env h4
  | none => .stuck
theorem s_dsub {o i e : Expr} {ma mo mi : ME} {pos pos' : Pos} (hu : X.A.units + 64 < cLine) (he : PE X e (tE X.K X.mg W ma)) (ho : PE X o (tE X.K X.mg W mo)) (hi : PE X i (tE X.K X.mg W mi)) (hs : swapsWith e (some (.Subscript o i pos')) pos.line X.env = pure false := by rfl) :
    PS X (.Assign [.Subscript o i pos'] e pos) (tS X.K X.mg W (mDSub ma mo mi)) := PS.imp (ps_dput (by omega) ho hi he hs) fun D σ H ⟨w, env, h, ok, er, p⟩ =>
  ⟨w, env, h, ok, er, PostS.bind er p fun v d w1 H1 h1 s1 ok1 v1 p1 => ⟨w1, env, h1, ok1, er.mono s1, PostS.bind (er.mono s1) p1 fun x od w2 H2 h2 s2 ok2 v2 p2 =>
    ⟨w2, env, h2, ok2, (er.mono s1).mono s2, PostS.bind ((er.mono s1).mono s2) p2 fun y id w3 H3 h3 s3 ok3 v3 p3 => by
      cases e1 : sDix od id d h3 with
      | none => rw [e1] at p3; exact p3.elim
      | some h4 =>
        rw [e1] at p3
        unfold sDix at e1
        split at e1
        · next j k ek =>
          split at e1
          · next kvs ej =>
            split at e1
            · next hl =>
              cases e1
              have q1 := keyD_ok v3 ek
              subst q1
              have v2' := v2.mono s3
              obtain ⟨p, i2, vs, rfl, e9, h1', h2', h3', r⟩ := getD_ok (ds := kvs) ok3 v2' (by unfold getD; dsimp only; rw [ej])
              cases e9
              have rr := r.put ((v1.mono s2).mono s3) k
              refine ⟨p, _, rfl, DPut.k h3' (by rw [r.len]; exact hl), ?_⟩
              have z := ok3.dwrite h1' rr
              exact p3 σ w3 _ z.2 z.1 (((er.mono s1).mono s2).mono s3)
            · cases e1
          · cases e1
        · cases e1⟩⟩⟩
def mDDel (o i : ME) : MS := fun env h => RsS (o env h) env fun od h2 => RsS (i env h2) env fun id h3 => match od, keyD id with
  | .ref j, some k => match h3[j]? with
    | some (.dct kvs) => if (valD kvs k).isSome = true then .nx env (h3.set j (.dct (dropD kvs k))) else .stuck
    | _ => .stuck
  | _, _ => .stuck
theorem s_ddel {o i : Expr} {mo mi : ME} {pos tpos : Pos} (ho : PE X o (tE X.K X.mg W mo)) (hi : PE X i (tE X.K X.mg W mi)) : PS X (.Delete [.Subscript o i tpos] pos) (tS X.K X.mg W (mDDel mo mi)) := PS.imp (ps_ddel ho hi) fun D σ H ⟨w, env, h, ok, er, p⟩ =>
  ⟨w, env, h, ok, er, PostS.bind er p fun x od w2 H2 h2 s2 ok2 v2 p2 => ⟨w2, env, h2, ok2, er.mono s2, PostS.bind (er.mono s2) p2 fun y id w3 H3 h3 s3 ok3 v3 p3 => by
    split at p3
    · next j k ek =>
      split at p3
      · next kvs ej =>
        split at p3
        · next hl =>
          have q1 := keyD_ok v3 ek
          subst q1
          obtain ⟨p, i2, vs, rfl, e9, h1', h2', h3', r⟩ := getD_ok (ds := kvs) ok3 (v2.mono s3) (by unfold getD; dsimp only; rw [ej])
          cases e9
          have z := ok3.dwrite h1' (r.drop k)
          exact ⟨p, vs, k, rfl, h3', rfl, by rw [r.isSome k]; exact hl, p3 σ w3 _ z.2 z.1 ((er.mono s2).mono s3)⟩
        · exact p3.elim
      · exact p3.elim
    · exact p3.elim⟩⟩
/-! methods: get, pop, setdefault -/
theorem isD_of {K : PySem.W.Frag} {w : Wd} {H : Hp} {h : Hap} {x : V} {d : D} (ok : Ok K w H h) (r : VR K w x d) (e : isT "dict" d h = true) : ∃ a, x = .ref a ∧ IsD H a := by
  cases r <;> simp [isT] at e
  next a i e1 =>
  split at e
  · simp at e
  · next xs e2 =>
    obtain ⟨_, o, e3, e4⟩ := ok.cel i a _ e1 e2
    cases o <;> simp [CRel] at e4
    exact ⟨a, rfl, .inl ⟨_, .inl e3⟩⟩
  · cases e
def dGet1 : D → List D → Hap → Option D := fun a ds h => match ds with
  | [k] => match getD a h, keyD k with
    | some kvs, some k => some ((valD kvs k).getD .non)
    | _, _ => none
  | _ => none
def dGet2 : D → List D → Hap → Option D := fun a ds h => match ds with
  | [k, z] => match getD a h, keyD k with
    | some kvs, some k => some ((valD kvs k).getD z)
    | _, _ => none
  | _ => none
def gPop1 : D → List D → Hap → Rs D := fun a ds h => match a, ds with
  | .ref i, [k] => match h[i]?, keyD k with
    | some (.dct kvs), some k => match valD kvs k with
      | some v => .ok v (h.set i (.dct (dropD kvs k)))
      | none => .stuck
    | _, _ => .stuck
  | _, _ => .stuck
def gPop2 : D → List D → Hap → Rs D := fun a ds h => match a, ds with
  | .ref i, [k, z] => match h[i]?, keyD k with
    | some (.dct kvs), some k => match valD kvs k with
      | some v => .ok v (h.set i (.dct (dropD kvs k)))
      | none => .ok z h
    | _, _ => .stuck
  | _, _ => .stuck
def gSetd : D → List D → Hap → Rs D := fun a ds h => match a, ds with
  | .ref i, [k, z] => match h[i]?, keyD k with
    | some (.dct kvs), some k => if kvs.length < sizeLine then match valD kvs k with
      | some v => .ok v h
      | none => .ok z (h.set i (.dct (putD kvs k z)))
      else .stuck
    | _, _ => .stuck
  | _, _ => .stuck
theorem KVR.getD_ {K : PySem.W.Frag} {w : Wd} {vs : List (Key × V)} {ds : List (Key × D)} (r : KVR K w vs ds) (k : Key) {v : V} {d : D} (r0 : VR K w v d) : VR K w ((valV vs k).getD v) ((valD ds k).getD d) := by
  rcases r.val k with ⟨z1, z2⟩ | ⟨v, d2, z1, z2, z3⟩
  · rw [z1, z2]; exact r0
  · rw [z1, z2]; exact z3
section
variable {o e f : Expr} {apos cpos : Pos} {mo me mf : ME}
theorem e_dget1 (hu : X.A.units + 64 < cLine) (ho : PE X o (tE X.K X.mg W mo)) (he : PE X e (tE X.K X.mg W me)) (m : M1 X o "get" apos e cpos) : PE X (.Call (.Attribute o "get" apos) [e] [] cpos) (tE X.K X.mg W (mMet "dict" (gP dGet1) mo (mCons me mNil))) :=
  PE.imp (pe_dget1 (by omega) ho he m) fun σ H Q ⟨w, env, h, ok, er, p⟩ => ⟨w, env, h, ok, er, Post.bind p fun x da w1 H1 h1 s1 ok1 v1 p1 => by
    by_cases c : isT "dict" da h1 = true
    · rw [if_pos c] at p1
      obtain ⟨a, rfl, d⟩ := isD_of ok1 v1 c
      refine ⟨a, rfl, d, w1, env, h1, ok1, er.mono s1, ?_⟩
      unfold mCons at p1
      rw [show ∀ (r : Rs D) (f : D → Hap → Rs (List D)) (g : List D → Hap → Rs D), (r.bind f).bind g = r.bind fun x h => (f x h).bind g from fun r f g => by cases r <;> rfl] at p1
      refine Post.bind p1 fun y dk w2 H2 h2 s2 ok2 v2 p2 => ?_
      obtain ⟨dd, e1, q⟩ := ofO_post (show Post X.K X.mg (VR X.K) w2 H2 (ofO (dGet1 da [dk] h2) h2) Q _ from p2)
      unfold dGet1 at e1
      dsimp only at e1
      split at e1
      · next kvs k e2 e3 =>
        cases e1
        have q1 := keyD_ok v2 e3
        subst q1
        obtain ⟨p, i, vs, e4, e5, h1', h2', h3', r⟩ := getD_ok ok2 (v1.mono s2) e2
        cases e4
        exact ⟨_, DGet.k h3', q _ _ _ (Step.refl _ _) ok2 (r.getD_ k .non)⟩
      · cases e1
    · rw [if_neg c] at p1
      exact p1.elim⟩
theorem bind2 {α β γ : Type} (r : Rs α) (f : α → Hap → Rs β) (g : β → Hap → Rs γ) : (r.bind f).bind g = r.bind fun x h => (f x h).bind g := by cases r <;> rfl
theorem e_dget2 (hu : X.A.units + 64 < cLine) (ho : PE X o (tE X.K X.mg W mo)) (he : PE X e (tE X.K X.mg W me)) (hf : PE X f (tE X.K X.mg W mf)) (m : M2 X o "get" apos e f cpos) :
    PE X (.Call (.Attribute o "get" apos) [e, f] [] cpos) (tE X.K X.mg W (mMet "dict" (gP dGet2) mo (mCons me (mCons mf mNil)))) :=
  PE.imp (pe_dget2 (by omega) ho he hf m) fun σ H Q ⟨w, env, h, ok, er, p⟩ => ⟨w, env, h, ok, er, Post.bind p fun x da w1 H1 h1 s1 ok1 v1 p1 => by
    by_cases c : isT "dict" da h1 = true
    · rw [if_pos c] at p1
      obtain ⟨a, rfl, d⟩ := isD_of ok1 v1 c
      refine ⟨a, rfl, d, w1, env, h1, ok1, er.mono s1, ?_⟩
      unfold mCons at p1
      rw [bind2] at p1
      refine Post.bind p1 fun y dk w2 H2 h2 s2 ok2 v2 p2 => ⟨w2, env, h2, ok2, (er.mono s1).mono s2, ?_⟩
      rw [bind2, bind2] at p2
      refine Post.bind p2 fun z dz w3 H3 h3 s3 ok3 v3 p3 => ?_
      obtain ⟨dd, e1, q⟩ := ofO_post (show Post X.K X.mg (VR X.K) w3 H3 (ofO (dGet2 da [dk, dz] h3) h3) Q _ from p3)
      unfold dGet2 at e1
      dsimp only at e1
      split at e1
      · next kvs k e2 e3 =>
        cases e1
        have q1 := keyD_ok v2 e3
        subst q1
        obtain ⟨p, i, vs, e4, e5, h1', h2', h3', r⟩ := getD_ok ok3 ((v1.mono s2).mono s3) e2
        cases e4
        exact ⟨_, DGet.k h3', q _ _ _ (Step.refl _ _) ok3 (r.getD_ k v3)⟩
      · cases e1
    · rw [if_neg c] at p1
      exact p1.elim⟩
theorem e_dpop2 (ho : PE X o (tE X.K X.mg W mo)) (he : PE X e (tE X.K X.mg W me)) (hf : PE X f (tE X.K X.mg W mf)) (m : M2 X o "pop" apos e f cpos) :
    PE X (.Call (.Attribute o "pop" apos) [e, f] [] cpos) (tE X.K X.mg W (mMet "dict" gPop2 mo (mCons me (mCons mf mNil)))) :=
  PE.imp (pe_dpop2 ho he hf m) fun σ H Q ⟨w, env, h, ok, er, p⟩ => ⟨w, env, h, ok, er, Post.bind p fun x da w1 H1 h1 s1 ok1 v1 p1 => by
    by_cases c : isT "dict" da h1 = true
    · rw [if_pos c] at p1
      obtain ⟨a, rfl, d⟩ := isD_of ok1 v1 c
      refine ⟨a, rfl, d, w1, env, h1, ok1, er.mono s1, ?_⟩
      unfold mCons at p1
      rw [bind2] at p1
      refine Post.bind p1 fun y dk w2 H2 h2 s2 ok2 v2 p2 => ⟨w2, env, h2, ok2, (er.mono s1).mono s2, ?_⟩
      rw [bind2, bind2] at p2
      refine Post.bind p2 fun z dz w3 H3 h3 s3 ok3 v3 p3 => ?_
      have p4 : Post X.K X.mg (VR X.K) w3 H3 (gPop2 da [dk, dz] h3) Q _ := p3
      unfold gPop2 at p4
      split at p4
      · next a0 b0 i k z0 e9 =>
        cases e9
        split at p4
        · next kvs k e2 e3 =>
          have q1 := keyD_ok v2 e3
          subst q1
          obtain ⟨p, i, vs, e4, e5, h1', h2', h3', r⟩ := getD_ok (ds := kvs) ok3 ((v1.mono s2).mono s3) (by unfold getD; dsimp only; rw [e2])
          cases e4
          cases e5
          refine ⟨vs, k, h3', rfl, fun v hv => ?_, fun hn => ?_⟩
          · rcases r.val k with ⟨z1, z2⟩ | ⟨v', d2, z1, z2, z3⟩
            · rw [hv] at z1; cases z1
            · rw [hv] at z1
              cases z1
              rw [z2] at p4
              have zz := ok3.dwrite h1' (r.drop k)
              exact p4 v w3 _ zz.2 zz.1 z3
          · rcases r.val k with ⟨z1, z2⟩ | ⟨v', d2, z1, z2, z3⟩
            · rw [z2] at p4
              exact p4 _ _ _ (Step.refl _ _) ok3 v3
            · rw [hn] at z1; cases z1
        · exact p4.elim
      · exact p4.elim
    · rw [if_neg c] at p1
      exact p1.elim⟩
theorem e_dsetd (ho : PE X o (tE X.K X.mg W mo)) (he : PE X e (tE X.K X.mg W me)) (hf : PE X f (tE X.K X.mg W mf)) (m : M2 X o "setdefault" apos e f cpos) :
    PE X (.Call (.Attribute o "setdefault" apos) [e, f] [] cpos) (tE X.K X.mg W (mMet "dict" gSetd mo (mCons me (mCons mf mNil)))) :=
  PE.imp (pe_dsetd ho he hf m) fun σ H Q ⟨w, env, h, ok, er, p⟩ => ⟨w, env, h, ok, er, Post.bind p fun x da w1 H1 h1 s1 ok1 v1 p1 => by
    by_cases c : isT "dict" da h1 = true
    · rw [if_pos c] at p1
      obtain ⟨a, rfl, d⟩ := isD_of ok1 v1 c
      refine ⟨a, rfl, d, w1, env, h1, ok1, er.mono s1, ?_⟩
      unfold mCons at p1
      rw [bind2] at p1
      refine Post.bind p1 fun y dk w2 H2 h2 s2 ok2 v2 p2 => ⟨w2, env, h2, ok2, (er.mono s1).mono s2, ?_⟩
      rw [bind2, bind2] at p2
      refine Post.bind p2 fun z dz w3 H3 h3 s3 ok3 v3 p3 => ?_
      have p4 : Post X.K X.mg (VR X.K) w3 H3 (gSetd da [dk, dz] h3) Q _ := p3
      unfold gSetd at p4
      split at p4
      · next a0 b0 i k z0 e9 =>
        cases e9
        split at p4
        · next kvs k e2 e3 =>
          have q1 := keyD_ok v2 e3
          subst q1
          obtain ⟨p, i, vs, e4, e5, h1', h2', h3', r⟩ := getD_ok (ds := kvs) ok3 ((v1.mono s2).mono s3) (by unfold getD; dsimp only; rw [e2])
          cases e4
          cases e5
          split at p4
          · next hl =>
            refine ⟨vs, k, h3', rfl, by rw [r.len]; exact hl, fun v hv => ?_, fun hn => ?_⟩
            · rcases r.val k with ⟨z1, z2⟩ | ⟨v', d2, z1, z2, z3⟩
              · rw [hv] at z1; cases z1
              · rw [hv] at z1
                cases z1
                rw [z2] at p4
                exact p4 _ _ _ (Step.refl _ _) ok3 z3
            · rcases r.val k with ⟨z1, z2⟩ | ⟨v', d2, z1, z2, z3⟩
              · rw [z2] at p4
                have zz := ok3.dwrite h1' (r.put v3 k)
                exact p4 _ w3 _ zz.2 zz.1 v3
              · rw [hn] at z1; cases z1
          · exact p4.elim
        · exact p4.elim
      · exact p4.elim
    · rw [if_neg c] at p1
      exact p1.elim⟩
end
end
end
end Vi

set_option Elab.async false
set_option linter.all false
set_option autoImplicit false
set_option maxRecDepth 100000
set_option maxHeartbeats 2000000
namespace Vi
open PySem PySem.Spec PySem.Calls PyProof.Rows L2 L2.DX
open scoped Classical
noncomputable section
variable {gm : Str → Option Value}
/-! ### sorted(d.items()) -/
mutual
theorem dp_keep {K : PySem.W.Frag} {H H' : Hp} (k : ∀ b o, H b = some o → H' b = some o) : ∀ {v : V} {d : PyData}, Dp K H v d → Dp K H' v d
  | _, _, .non => .non
  | _, _, .bl b => .bl b
  | _, _, .int i => .int i
  | _, _, .str i => .str i
  | _, _, .lst e t => .lst (sqL_mono k e) (dps_keep k t)
  | _, _, .tup e t => .tup (sqT_mono k e) (dps_keep k t)
theorem dps_keep {K : PySem.W.Frag} {H H' : Hp} (k : ∀ b o, H b = some o → H' b = some o) : ∀ {v : List V} {d : List PyData}, DpAll K H v d → DpAll K H' v d
  | _, _, .nil => .nil
  | _, _, .cons a b => .cons (dp_keep k a) (dps_keep k b)
end
section
variable {X : Cx}
def rItemsK : V → List V → Hp → VK → Prop := fun x xs H Q => ∃ (a : Addr) (kvs : List (Key × V)), x = .ref a ∧ xs = [] ∧ H a = some (.dK kvs) ∧ ∀ p, H p = none → Q (.ref p) (upd H p (itemsO p a))
theorem mt_itemsK : MtR X "dict.items" rItemsK := by
  intro pins s σ H x xs v us Q I rx rxs h
  obtain ⟨a, kvs, rfl, rfl, ha, q⟩ := h
  cases rx
  cases rxs
  obtain ⟨hz, hs0, vs, kv, hdo⟩ := I.hok a _ ha
  obtain ⟨ep, hat⟩ := hdo.dictAt
  have hf : H s.heap.objs.size = none := I.hok.fresh (Nat.le_refl _)
  refine call_meetsIn F.slot_dict_items hdo.typeIs F.entry_dict_items (F.args_dict_items_1 _) (meets_dict_items (mixKind X.prog X.w) a hs0) ⟨⟨vs, hdo⟩, ?_⟩
  exact ⟨.ref s.heap.objs.size, upd H s.heap.objs.size (itemsO s.heap.objs.size a), I.laid (t' := s.toks) (fun b u e => Heap.get?_push_of_some _ e) (Nat.le_refl _) (itemsO_ok (Heap.get?_push_size _ rfl)), rfl, q _ hf⟩
theorem items_laid0 {pins : List (Addr × Obj)} {σ : L2.St} {H : Hp} {s : Shared} {h' : Heap} {tk : Nat} {kvs : List (Key × V)} {vs : List (Key × Value)} {as : List Addr} (I : Inv X pins σ H s) (kv : KV kvs vs)
    (hk : ∀ b o, s.heap.get? b = some o → h'.get? b = some o) (hl : as.length = vs.length) (hG : PySem.W.KdxG (mixKind X.prog X.w) vs s.heap.objs.size h' as) :
    ∃ H' : Hp, (∀ b o, H b = some o → H' b = some o) ∧ (∀ t ∈ as, H t = none) ∧ Paired (fun (t : Addr) (q : Key × V) => H' t = some (.tup [kV q.1, q.2])) as kvs ∧ Inv X pins σ H' { s with heap := h', toks := tk } := by
  have lk : kvs.length = vs.length := Paired.length kv
  have nd : as.Nodup := List.Pairwise.imp (fun {a b} (h : a < b) => Nat.ne_of_lt h) hG.rise
  have new : ∀ t ∈ as, H t = none := fun t ht => I.hok.fresh (Nat.le_of_lt (hG.above t ht))
  have atP := LiI.putT_at as kvs H (by omega) nd
  have off : ∀ b, b ∉ as → LiI.putT H as kvs b = H b := fun b h1 => LiI.putT_off as kvs _ h1
  have low : ∀ b o, s.heap.get? b = some o → b ∉ as := fun b o e z => absurd (Heap.lt_size e) (Nat.not_lt.mpr (Nat.le_of_lt (hG.above b z)))
  have kp : ∀ b u, H b = some u → (LiI.putT H as kvs) b = some u := fun b u e => by
    rw [off b (fun z => by rw [new b z] at e; cases e)]
    exact e
  refine ⟨LiI.putT H as kvs, kp, new, atP, ?_⟩
  refine I.call' (ch := []) rfl ⟨fun b o q _ _ _ => hk b o q, fun b o q _ _ _ => ⟨o.slots, hk b o q⟩, fun b o q n _ => ?_, fun b o q _ => ⟨o, hk b o q⟩, fun b xs q => kp b _ q, fun b o u q => kp b _ q, fun b ps q => ⟨#[], by rw [kp b _ q]; simp⟩⟩ (fun b u q => ?_) I.bare fun b z => by simp at z
  · rw [off b (low b o q)]
    exact n
  · by_cases hb : b ∈ as
    · obtain ⟨j, pk, e1, e2, e3⟩ := LiI.paired_ix atP hb
      rw [e3] at q
      cases q
      obtain ⟨key, k, x, f1, f2, f3⟩ := hG.pairs j b e1
      obtain ⟨qv, g1, g2, g3⟩ := LiI.paired_get kv e2
      rw [f1] at g1
      cases g1
      have rk : RelV (kV pk.1) key := by
        rw [g2]
        exact relV_key (show keyIs k key = true from f2)
      exact ⟨by show 2 ≤ sizeLine; decide, [key, x], .cons rk (.cons g3 .nil), ⟨_, f3, rfl, _, rfl⟩⟩
    · rw [off b hb] at q
      exact (I.hok b u q).stay (fun d v _ y => hk d v y) (fun d y => kp d _ y) fun d xs y => kp d _ y
def keyP : Key → PyData
  | .inl i => .int i
  | .inr x => .str x
/-- the pairs as data: es pairs each entry with the data of its value -/
def itP (e : (Key × V) × PyData) : PyData := .tuple [keyP e.1.1, e.2]
def rSortItK (K : PySem.W.Frag) : List V → Hp → VK → Prop := fun vs H Q => ∃ (p a : Addr) (es : List ((Key × V) × PyData)), vs = [.ref p] ∧ H p = some (itemsO p a) ∧ H a = some (.dK (es.map Prod.fst)) ∧ (∀ e ∈ es, Dp K H e.1.2 e.2) ∧
  PySem.W.AllAlike (es.map itP) ∧ PySem.W.Sortable (es.map itP) ∧ (∀ e ∈ es, (itP e).depth ≤ 40) ∧ es.length ≤ sizeLine ∧
  ∀ (H' : Hp) (q : Addr) (ts : List Addr), (∀ b o, H b = some o → H' b = some o) → H q = none → (∀ t ∈ ts, H t = none) → ts.length = es.length → (∀ z ∈ ts.zip es, H' z.1 = some (.tup [kV z.2.1.1, z.2.1.2])) →
    H' q = some (.lst (((ts.zip es).mergeSort (PySem.W.dataLe false fun b => itP b.2)).map fun b => V.ref b.1)) → Q (.ref q) H'
theorem dp_key {K : PySem.W.Frag} {H : Hp} (k : Key) : Dp K H (kV k) (keyP k) := by
  cases k with
  | inl i => exact .int i
  | inr x => exact .str x
theorem paired_zip {α β : Type} {F : α → β → Prop} : ∀ {xs : List α} {ys : List β}, Paired F xs ys → ∀ z ∈ xs.zip ys, F z.1 z.2
  | _, _, .nil, z, m => by simp at m
  | _, _, .cons h t, z, m => by
    rw [List.zip_cons_cons] at m
    rcases List.mem_cons.mp m with rfl | m
    · exact h
    · exact paired_zip t z m
theorem each_refs {β : Type} : ∀ {ts : List Addr} {es : List β}, ts.length = es.length → PySem.W.EachIs (fun (u : Value) (b : Addr × β) => u = .ref b.1) (ts.map Value.ref) (ts.zip es)
  | [], [], _ => .nil
  | [], _ :: _, h => by cases h
  | _ :: _, [], h => by cases h
  | t :: ts, e :: es, h => .cons rfl (each_refs (Nat.succ.inj h))
theorem refs_of_each {β : Type} : ∀ {us : List Value} {bs : List (Addr × β)}, PySem.W.EachIs (fun (u : Value) (b : Addr × β) => u = .ref b.1) us bs → Vals (bs.map fun b => V.ref b.1) us
  | _, _, .nil => .nil
  | _, _, .cons a b => .cons a (refs_of_each b)
theorem cr_sortItK (hc : X.calm = true) (hu : X.A.units + 64 < cLine) : CallR X (.builtin "sorted") (rSortItK X.K) := by
  intro pins s σ H xs us Q I r h
  obtain ⟨p, a, es, rfl, hp, ha, hv, hal, hab, hdp, hfew, q⟩ := h
  obtain rfl := Vals.ref1 r
  have view : s.heap.IsItemsView p a := (show ObjOk X.prog X.w H s.heap p (itemsO p a) from I.hok p _ hp).1
  obtain ⟨hz, hs0, vs, kv, hdo⟩ := I.hok a _ ha
  obtain ⟨ep, hat⟩ := hdo.dictAt
  have lk : (es.map Prod.fst).length = vs.length := Paired.length kv
  rw [List.length_map] at lk
  refine call_function_entry PyProof.Rows.kind_sorted PyProof.Rows.plain_sorted PyProof.Rows.entry_sorted (PyProof.Rows.args_sorted1 _) ?_
  unfold Builtin.«sorted»
  refine wpAny_bind (m := checkCount "sorted" 1 1 _) (wpAny_pure ?_)
  refine wpAny_bind (PySem.W.kdx_collect (A := X.A.in1) (knd := mixKind X.prog X.w) (kvs := vs) (ep := ep) (I.ok.hd hc) view hat (by omega) fun h' tk as hk hl hG => ?_)
  refine wpAny_bind (wpAny_newList ?_ (by rw [List.length_map, hl]; omega))
  obtain ⟨H1, k1, k2, k3, I1⟩ := items_laid0 (tk := tk) I kv hk hl hG
  have las : as.length = es.length := by omega
  have k3' : ∀ z ∈ as.zip es, H1 z.1 = some (.tup [kV z.2.1.1, z.2.1.2]) := fun z m => by
    have m2 : (z.1, z.2.1) ∈ as.zip (es.map Prod.fst) := by
      rw [List.zip_map_right]
      exact List.mem_map.mpr ⟨z, m, rfl⟩
    exact paired_zip k3 _ m2
  have zm : (as.zip es).map (fun b => itP b.2) = es.map itP := by
    conv => rhs; rw [← show (as.zip es).map Prod.snd = es by rw [List.map_snd_zip]; omega]
    rw [List.map_map]
    rfl
  -- the list to be sorted
  have hob : (h'.push { cls := .type "list", data := .seq (as.map Value.ref).toArray }).get? h'.objs.size = some (seqObj "list" (as.map Value.ref).toArray 0) := Heap.get?_push_size _ rfl
  have er : PySem.W.EachIs (fun v (b : Addr × ((Key × V) × PyData)) => ∃ ad, Reads (PySem.W.sortingHeap (h'.push { cls := .type "list", data := .seq (as.map Value.ref).toArray }) h'.objs.size (as.map Value.ref)) v (itP b.2) ad) (as.map Value.ref) (as.zip es) := by
    have go : ∀ {us : List Value} {bs : List (Addr × ((Key × V) × PyData))}, PySem.W.EachIs (fun (u : Value) (b : Addr × ((Key × V) × PyData)) => u = .ref b.1) us bs → (∀ b ∈ bs, b ∈ as.zip es) →
        PySem.W.EachIs (fun v (b : Addr × ((Key × V) × PyData)) => ∃ ad, Reads (PySem.W.sortingHeap (h'.push { cls := .type "list", data := .seq (as.map Value.ref).toArray }) h'.objs.size (as.map Value.ref)) v (itP b.2) ad) us bs := by
      intro us bs z
      induction z with
      | nil => exact fun _ => .nil
      | @cons u b us bs e t ih =>
        intro hb
        refine .cons ?_ (ih fun b m => hb b (List.mem_cons_of_mem _ m))
        have hm := hb b List.mem_cons_self
        have hme : b.2 ∈ es := (List.of_mem_zip hm).2
        have dp : Dp X.K H1 (.ref b.1) (itP b.2) := .tup (.inl (.inl (k3' b hm))) (.cons (dp_key _) (.cons (dp_keep k1 (hv b.2 hme)) .nil))
        obtain ⟨ad, rd⟩ := Dp.reads I1 _ _ u dp e
        exact ⟨ad, PyProof.Rows.Reads.keeps (fun b o e => PySem.W.sortingHeap_old (Nat.ne_of_lt (Heap.lt_size e)) (Heap.get?_push_of_some _ e)) rd⟩
    exact go (each_refs las) fun _ m => m
  refine wpAny_bind (wpAny_holding (wpAny_mono (Q := fun v s' => EP X pins σ Q (.ref h'.objs.size) s') (wpAny_call_entry PyProof.Rows.slot_list_sort ⟨_, hob, rfl⟩ PyProof.Rows.entry_list_sort
    (PySem.W.list_sort_vals (κ := PySem.W.dataKind (PySem.W.sortingHeap (h'.push { cls := .type "list", data := .seq (as.map Value.ref).toArray }) h'.objs.size (as.map Value.ref)) ((as.zip es).map fun b => itP b.2)) hob
      (PySem.W.SortsAt.data (s := { s with heap := PySem.W.sortingHeap (h'.push { cls := .type "list", data := .seq (as.map Value.ref).toArray }) h'.objs.size (as.map Value.ref), toks := tk }) (PySem.W.each_map (fun b : Addr × ((Key × V) × PyData) => itP b.2) er) (by rw [zm]; exact hal) (by rw [zm]; exact hab) ?_) (by rw [List.length_map]; omega) ⟨.none, rfl, ?_⟩) (PyProof.Rows.args_list_sort _)) (fun _ s' x => ?_) fun _ _ e => e))
  · intro d hd
    rw [zm] at hd
    obtain ⟨e, he, rfl⟩ := List.mem_map.mp hd
    have := hdp e he
    show X.A.units + 1 + 1 + _ < cLine
    omega
  · have eo := PySem.W.sortVals_data false (each_refs las) er (by rw [zm]; exact hal)
    have lo : (PySem.W.sortVals (PySem.W.dataKind (PySem.W.sortingHeap (h'.push { cls := .type "list", data := .seq (as.map Value.ref).toArray }) h'.objs.size (as.map Value.ref)) ((as.zip es).map fun b => itP b.2)) false (as.map Value.ref) (as.map Value.ref)).length ≤ sizeLine := by
      rw [PySem.W.sortVals_length false rfl, List.length_map]; omega
    have vo := refs_of_each eo
    obtain ⟨n, hn⟩ := PyProof.Rows.sortedHeap_at (out := (PySem.W.sortVals (PySem.W.dataKind (PySem.W.sortingHeap (h'.push { cls := .type "list", data := .seq (as.map Value.ref).toArray }) h'.objs.size (as.map Value.ref)) ((as.zip es).map fun b => itP b.2)) false (as.map Value.ref) (as.map Value.ref)).toArray) hob
    have fB : H1 h'.objs.size = none := I1.hok.fresh (Nat.le_refl _)
    have fB0 : H h'.objs.size = none := by
      cases z : H h'.objs.size with
      | none => rfl
      | some o => rw [k1 _ _ z] at fB; cases fB
    have off : ∀ b, b ≠ h'.objs.size → upd H1 h'.objs.size (HO.lst (((as.zip es).mergeSort (PySem.W.dataLe false fun b => itP b.2)).map fun b => V.ref b.1)) b = H1 b := fun b hb => upd_ne hb
    refine ⟨.ref h'.objs.size, upd H1 h'.objs.size (.lst (((as.zip es).mergeSort (PySem.W.dataLe false fun b => itP b.2)).map fun b => V.ref b.1)), I1.laid (t' := tk) (fun b o e => ?_) (Nat.le_refl _) ?_, rfl, q _ _ as (fun b o e => ?_) fB0 k2 las (fun z m => ?_) upd_same⟩
    · exact (PyProof.Rows.sortedHeap_old (Nat.ne_of_lt (Heap.lt_size e)) (Heap.lt_size (Heap.get?_push_of_some _ e))).trans (Heap.get?_push_of_some _ e)
    · exact ⟨by rw [List.length_map, List.length_mergeSort, List.length_zip]; omega, _, n, vo, hn⟩
    · rw [off b (ne_of_none e fB0)]
      exact k1 b o e
    · rw [off z.1 (ne_of_none (k3' z m) fB)]
      exact k3' z m
  · exact wpAny_pure ⟨_, rfl, x⟩
/-- at the data -/
def itD (kv : Key × D) : D := .tup [keyV kv.1, kv.2]
def dSortIt : List D → Hap → Option D := fun ds h => match ds with
  | [d] => (getD d h).bind fun kvs => if Srt (kvs.map itD) then some (.lst ((kvs.map itD).mergeSort leD)) else none
  | _ => none
def mSortIt (a : ME) : ME := fun env h => (a env h).bind fun x h1 => ofO (dSortIt [x] h1) h1
theorem py_keyV (k : Key) : (keyV k).py = some (keyP k) := by cases k <;> rfl
theorem pyd_it (kv : Key × D) {d : PyData} (e : kv.2.py = some d) : pyd (itD kv) = .tuple [keyP kv.1, d] ∧ (itD kv).py = some (.tuple [keyP kv.1, d]) := by
  have : (itD kv).py = some (.tuple [keyP kv.1, d]) := by
    unfold itD D.py D.pys
    rw [py_keyV]
    unfold D.pys
    rw [e]
    rfl
  exact ⟨by unfold pyd; rw [this]; rfl, this⟩
theorem py_snd {kv : Key × D} (e : (itD kv).py = some (pyd (itD kv))) : ∃ d, kv.2.py = some d := by
  unfold itD D.py D.pys at e
  rw [py_keyV] at e
  unfold D.pys at e
  cases q : kv.2.py with
  | none => rw [q] at e; simp [D.pys] at e
  | some d => exact ⟨d, rfl⟩
theorem zip3 {K : PySem.W.Frag} {w : Wd} : ∀ {vs : List (Key × V)} {ds : List (Key × D)}, KVR K w vs ds → ∀ z ∈ vs.zip ds, z.1.1 = z.2.1 ∧ VR K w z.1.2 z.2.2
  | _, _, .nil, z, m => by simp at m
  | _, _, .cons a t, z, m => by
    rw [List.zip_cons_cons] at m
    rcases List.mem_cons.mp m with rfl | m
    · exact ⟨rfl, a⟩
    · exact zip3 t z m
theorem vrs_map {K : PySem.W.Frag} {w : Wd} {β : Type} {f : β → V} {g : β → D} : ∀ {l : List β}, (∀ b ∈ l, VR K w (f b) (g b)) → VRs K w (l.map f) (l.map g)
  | [], _ => .nil
  | b :: l, h => .cons (h b List.mem_cons_self) (vrs_map fun q m => h q (List.mem_cons_of_mem _ m))
theorem e_sortIt {W : WX} {e : Expr} {m : ME} {p apos cpos pos : Pos} (hc : X.calm = true) (hu : X.A.units + 64 < cLine) (he : PE X e (tE X.K X.mg W m)) (hg : Gl X "sorted") (hm : X.mg "sorted" = none)
    (hbase : attributeBase e "items" X.env (eval e X.env) = eval e X.env := by rfl) (hline : (apos.endLine == cpos.line) = true := by rfl)
    (hst : starEach [.Call (.Attribute e "items" apos) [] [] cpos] X.env = (false, eval (.Call (.Attribute e "items" apos) [] [] cpos) X.env) :: starEach [] X.env := by rfl) (hpl : (backTo pos (starEach [] X.env)).any (·.1) = false := by rfl) :
    PE X (.Call (.Name "sorted" p) [.Call (.Attribute e "items" apos) [] [] cpos] [] pos) (tE X.K X.mg W (mSortIt m)) := by
  refine PE.imp (pe_callB (cr_sortItK hc hu) hg hm rfl (pa_cons (pe_bm0 PySem.F.plainAttrs_dict PySem.F.slot_dict_items PySem.F.type_dict_items mt_itemsK he hbase hline) pa_nil hst) (by decide) (by decide) hst hpl) fun σ H Q ⟨w, env, h, ok, er, p⟩ => ?_
  refine ⟨w, env, h, ok, er, Post.bind p fun x da w1 H1 h1 s1 ok1 v1 p1 => ?_⟩
  obtain ⟨d, e1, q⟩ := ofO_post p1
  unfold dSortIt at e1
  dsimp only at e1
  obtain ⟨kvs, e2, e3⟩ := Option.bind_eq_some_iff.mp e1
  split at e3
  · next hS =>
    cases e3
    obtain ⟨a, i, vs, rfl, rfl, hr, hi, ha, r⟩ := getD_ok ok1 v1 e2
    refine ⟨.inr (.inr (.inl ⟨by decide, .inl ⟨_, ha⟩⟩)), a, vs, rfl, rfl, ha, fun pv hpv => ?_⟩
    have sm : ∀ b o, H1 b = some o → upd H1 pv (itemsO pv a) b = some o := fun b o e => by rw [upd_ne (ne_of_none e hpv)]; exact e
    have hls := r.len
    have zs : (vs.zip kvs).map Prod.snd = kvs := by rw [List.map_snd_zip]; omega
    have zf : (vs.zip kvs).map Prod.fst = vs := by rw [List.map_fst_zip]; omega
    have zr := zip3 r
    have pz : ∀ z ∈ vs.zip kvs, z.2.2.py = some (pyd z.2.2) ∧ pyd (itD z.2) = .tuple [keyP z.2.1, pyd z.2.2] := fun z m => by
      have m2 : z.2 ∈ kvs := by rw [← zs]; exact List.mem_map.mpr ⟨z, m, rfl⟩
      obtain ⟨d, hd⟩ := py_snd (hS.py _ (List.mem_map.mpr ⟨z.2, m2, rfl⟩))
      have e : pyd z.2.2 = d := by unfold pyd; rw [hd]; rfl
      rw [e]
      exact ⟨hd, (pyd_it z.2 hd).1⟩
    have em : ((vs.zip kvs).map fun z => (z.1, pyd z.2.2)).map itP = (kvs.map itD).map pyd := by
      conv => rhs; rw [← zs]
      rw [List.map_map, List.map_map, List.map_map]
      refine List.map_congr_left fun z m => ?_
      show itP (z.1, pyd z.2.2) = pyd (itD z.2)
      rw [(pz z m).2]
      unfold itP
      rw [(zr z m).1]
    have el : ((vs.zip kvs).map fun z => (z.1, pyd z.2.2)).length = kvs.length := by rw [List.length_map, List.length_zip]; omega
    refine ⟨pv, a, (vs.zip kvs).map fun z => (z.1, pyd z.2.2), rfl, upd_same, ?_, fun e m => ?_, ?_, ?_, ?_, ?_, ?_⟩
    · rw [upd_ne (ne_of_none ha hpv), ha, List.map_map]
      congr 2
      conv => lhs; rw [← zf]
      rfl
    · obtain ⟨z, m2, rfl⟩ := List.mem_map.mp m
      exact dp_keep sm (VR.dp ok1.sub (zr z m2).2 (pz z m2).1)
    · rw [em]; exact hS.alike
    · rw [em]; exact hS.able
    · intro e m
      have m2 : itP e ∈ (kvs.map itD).map pyd := by rw [← em]; exact List.mem_map.mpr ⟨e, m, rfl⟩
      obtain ⟨y, m3, e3⟩ := List.mem_map.mp m2
      rw [← e3]
      exact hS.deep y m3
    · rw [el]; have := hS.few; rw [List.length_map] at this; exact this
    · intro H' qa ts hk hqa hts hlt htp hq
      have k1 : ∀ b o, H1 b = some o → H' b = some o := fun b o e => hk b o (sm b o e)
      have n0 : ∀ b, upd H1 pv (itemsO pv a) b = none → H1 b = none := fun b e => by
        cases z : H1 b with
        | none => rfl
        | some o => rw [sm b o z] at e; cases e
      let F' : Hp := fun b => if b = qa ∨ b ∈ ts then H' b else w1.F b
      have f0 : ∀ b, b = qa ∨ b ∈ ts → H1 b = none := fun b hb => by
        rcases hb with rfl | hb
        · exact n0 _ hqa
        · exact n0 _ (hts b hb)
      have g := ok1.grow (F' := F') (H' := H') k1 (fun b o e => by
          show (if b = qa ∨ b ∈ ts then H' b else w1.F b) = some o
          by_cases hb : b = qa ∨ b ∈ ts
          · have := f0 b hb; rw [ok1.sub b o e] at this; cases this
          · rw [if_neg hb]; exact e) (fun b o e => by
          have e : (if b = qa ∨ b ∈ ts then H' b else w1.F b) = some o := e
          by_cases hb : b = qa ∨ b ∈ ts
          · rw [if_pos hb] at e; exact e
          · rw [if_neg hb] at e; exact k1 b o (ok1.sub b o e)) (fun b o e => by
          have e : (if b = qa ∨ b ∈ ts then H' b else w1.F b) = some o := e
          by_cases hb : b = qa ∨ b ∈ ts
          · exact .inr (f0 b hb)
          · rw [if_neg hb] at e; exact .inl e)
      refine q (.ref qa) _ _ g.2 g.1 ?_
      have st := g.2
      refine .lst (vs := ((ts.zip ((vs.zip kvs).map fun z => (z.1, pyd z.2.2))).mergeSort (PySem.W.dataLe false fun b => itP b.2)).map fun b => V.ref b.1) (by show (if qa = qa ∨ qa ∈ ts then H' qa else w1.F qa) = _; rw [if_pos (.inl rfl)]; exact hq) ?_
      -- the sorted pairs, seen with their data
      have e5 : ts.zip ((vs.zip kvs).map fun z => (z.1, pyd z.2.2)) = (ts.zip (vs.zip kvs)).map fun y => (y.1, (y.2.1, pyd y.2.2.2)) := by
        rw [List.zip_map_right]; rfl
      have hl3 : ts.length = (vs.zip kvs).length := by rw [el] at hlt; rw [List.length_zip]; omega
      have z3 : (ts.zip (vs.zip kvs)).map Prod.snd = vs.zip kvs := by rw [List.map_snd_zip]; omega
      rw [e5]
      have e6 : ((ts.zip (vs.zip kvs)).map fun y => (y.1, (y.2.1, pyd y.2.2.2))).mergeSort (PySem.W.dataLe false fun b => itP b.2) =
          ((ts.zip (vs.zip kvs)).mergeSort fun x y => leD (itD x.2.2) (itD y.2.2)).map fun y => (y.1, (y.2.1, pyd y.2.2.2)) := by
        refine (PySem.W.sort_maps (r := fun x y : Addr × ((Key × V) × (Key × D)) => leD (itD x.2.2) (itD y.2.2)) (s := PySem.W.dataLe false fun b : Addr × ((Key × V) × PyData) => itP b.2) (fun y => (y.1, (y.2.1, pyd y.2.2.2))) (l := ts.zip (vs.zip kvs)) fun x hx y hy => ?_).symm
        have mx : x.2 ∈ vs.zip kvs := (List.of_mem_zip hx).2
        have my : y.2 ∈ vs.zip kvs := (List.of_mem_zip hy).2
        show PySem.W.dataLe false pyd (itD x.2.2) (itD y.2.2) = PySem.W.dataLe false (fun b : Addr × ((Key × V) × PyData) => itP b.2) _ _
        have ex : pyd (itD x.2.2) = itP (x.2.1, pyd x.2.2.2) := by rw [(pz _ mx).2, ← (zr _ mx).1]; rfl
        have ey : pyd (itD y.2.2) = itP (y.2.1, pyd y.2.2.2) := by rw [(pz _ my).2, ← (zr _ my).1]; rfl
        simp only [PySem.W.dataLe, PySem.W.sortLe, ex, ey]
      have e7 : (kvs.map itD).mergeSort leD = ((ts.zip (vs.zip kvs)).mergeSort fun x y => leD (itD x.2.2) (itD y.2.2)).map fun y => itD y.2.2 := by
        have z4 : kvs.map itD = (ts.zip (vs.zip kvs)).map fun y => itD y.2.2 := by
          conv => lhs; rw [← zs, ← z3]
          rw [List.map_map, List.map_map]
          rfl
        rw [z4]
        exact (PySem.W.sort_maps (fun y : Addr × ((Key × V) × (Key × D)) => itD y.2.2) (l := ts.zip (vs.zip kvs)) fun _ _ _ _ => rfl).symm
      rw [e6, e7, List.map_map]
      refine vrs_map fun y my => ?_
      have my2 : y ∈ ts.zip (vs.zip kvs) := List.mem_mergeSort.mp my
      have m4 : (y.1, (y.2.1, pyd y.2.2.2)) ∈ ts.zip ((vs.zip kvs).map fun z => (z.1, pyd z.2.2)) := by rw [e5]; exact List.mem_map.mpr ⟨y, my2, rfl⟩
      have m5 : y.2 ∈ vs.zip kvs := (List.of_mem_zip my2).2
      have m6 : y.1 ∈ ts := (List.of_mem_zip my2).1
      have hp := htp _ m4
      refine .tup (vs := [kV y.2.1.1, y.2.1.2]) (.inl (.inl (by show (if y.1 = qa ∨ y.1 ∈ ts then H' y.1 else w1.F y.1) = _; rw [if_pos (.inr m6)]; exact hp))) (.cons ?_ (.cons (((zr _ m5).2).mono st) .nil))
      rw [(zr _ m5).1]
      exact vr_keyV _
  · cases e3
end
/-! ### x in xs, deep -/
def inDO (a b : D) (h : Hap) : Option Bool := match pyOf a h, pyOf b h with
  | some d, some (.list ds) => if SeqAt.shaped d = true ∧ SeqAt.shaped (.list ds) = true then some (ds.any fun z => PyData.eqv z d) else none
  | _, _ => none
def dInD : D → D → Hap → Option D := fun a b h => (inDO a b h).map .bl
def dNotInD : D → D → Hap → Option D := fun a b h => (inDO a b h).map fun b => .bl (!b)
theorem units65 {k : Nat} {A : Around} (r : Room k A) : A.units + 65 < cLine := by have := r.un; omega
theorem s_inD {K : PySem.W.Frag} : OpS K (rInD K) dInD := by
  intro w H h x y a b d Q ok vx vy e0 q
  obtain ⟨z, e, ez⟩ := Option.map_eq_some_iff.mp e0
  subst ez
  unfold inDO at e
  split at e
  · next d ds e1 e2 =>
    split at e
    · next hs =>
      cases e
      exact ⟨d, ds, pyOf_ok ok vx e1, pyOf_ok ok vy e2, hs.1, hs.2, q _ _ _ (Step.refl _ _) ok (.bl _)⟩
    · cases e
  · cases e
theorem s_notInD {K : PySem.W.Frag} : OpS K (rNotInD K) dNotInD := by
  intro w H h x y a b d Q ok vx vy e0 q
  obtain ⟨z, e, ez⟩ := Option.map_eq_some_iff.mp e0
  subst ez
  unfold inDO at e
  split at e
  · next d ds e1 e2 =>
    split at e
    · next hs =>
      cases e
      exact ⟨d, ds, pyOf_ok ok vx e1, pyOf_ok ok vy e2, hs.1, hs.2, q _ _ _ (Step.refl _ _) ok (.bl _)⟩
    · cases e
  · cases e
end
end Vi

set_option Elab.async false
set_option linter.all false
set_option autoImplicit false
set_option maxRecDepth 100000
set_option maxHeartbeats 2000000
namespace Vi
open PySem PySem.Spec PyProof.Rows L2
open scoped Classical
noncomputable section
variable {gm : Str → Option Value}
/-! ### objects of own classes: fields -/
def insOf (d : D) (h : Hap) : Option (Str × List (Str × D)) := match d with
  | .ref i => match h[i]? with
    | some (.ins c fs) => some (c, fs)
    | _ => none
  | _ => none
def fldD (c f : Str) : D → Hap → Option D := fun d h => match insOf d h with
  | some (c', fs) => if c' = c then fs.lookup f else none
  | none => none
def putFD (f : Str) (v : D) : List (Str × D) → List (Str × D)
  | [] => [(f, v)]
  | (g, x) :: r => if g = f then (g, v) :: r else (g, x) :: putFD f v r
section
variable {K : PySem.W.Frag} {w : Wd} {H : Hp} {h : Hap} {x : V} {d : D} {c : Str} {fds : List (Str × D)}
inductive FRel (K : PySem.W.Frag) (w : Wd) : List (Str × V) → List (Str × D) → Prop
  | nil : FRel K w [] []
  | cons {k : Str} {v : V} {d : D} {vs : List (Str × V)} {ds : List (Str × D)} : VR K w v d → FRel K w vs ds → FRel K w ((k, v) :: vs) ((k, d) :: ds)
theorem frel_of : ∀ {vs : List (Str × V)} {ds : List (Str × D)}, vs.map Prod.fst = ds.map Prod.fst → VRs K w (vs.map Prod.snd) (ds.map Prod.snd) → FRel K w vs ds
  | [], [], _, _ => .nil
  | [], _ :: _, h, _ => by simp at h
  | _ :: _, [], h, _ => by simp at h
  | (k, v) :: vs, (k2, d) :: ds, h, r => by
    simp only [List.map_cons, List.cons.injEq] at h
    obtain ⟨rfl, h⟩ := h
    rw [List.map_cons, List.map_cons] at r
    cases r with
    | cons a b => exact .cons a (frel_of h b)
theorem FRel.fst : ∀ {vs : List (Str × V)} {ds : List (Str × D)}, FRel K w vs ds → vs.map Prod.fst = ds.map Prod.fst
  | _, _, .nil => rfl
  | _, _, .cons _ t => by rw [List.map_cons, List.map_cons, t.fst]
theorem FRel.snd : ∀ {vs : List (Str × V)} {ds : List (Str × D)}, FRel K w vs ds → VRs K w (vs.map Prod.snd) (ds.map Prod.snd)
  | _, _, .nil => .nil
  | _, _, .cons a t => by rw [List.map_cons, List.map_cons]; exact .cons a t.snd
theorem FRel.len {vs : List (Str × V)} {ds : List (Str × D)} (r : FRel K w vs ds) : vs.length = ds.length := by
  have := congrArg List.length r.fst
  simpa using this
theorem FRel.mono {w' : Wd} {H H' : Hp} (s : Step w H w' H') : ∀ {vs : List (Str × V)} {ds : List (Str × D)}, FRel K w vs ds → FRel K w' vs ds
  | _, _, .nil => .nil
  | _, _, .cons a t => .cons (a.mono s) (t.mono s)
theorem FRel.look : ∀ {vs : List (Str × V)} {ds : List (Str × D)} (f : Str), FRel K w vs ds → (vs.lookup f = none ∧ ds.lookup f = none) ∨ ∃ v d, vs.lookup f = some v ∧ ds.lookup f = some d ∧ VR K w v d
  | _, _, _, .nil => .inl ⟨rfl, rfl⟩
  | (k0, v) :: vs, (_, d) :: ds, f, .cons a t => by
    rw [List.lookup_cons, List.lookup_cons]
    by_cases e : f = k0
    · subst e
      right
      exact ⟨v, d, by simp, by simp, a⟩
    · have e2 : (f == k0) = false := beq_eq_false_iff_ne.mpr e
      rw [e2]
      exact FRel.look f t
theorem FRel.put {v0 : V} {d0 : D} (r : VR K w v0 d0) (f : Str) : ∀ {vs : List (Str × V)} {ds : List (Str × D)}, FRel K w vs ds → FRel K w (putF f v0 vs) (putFD f d0 ds)
  | _, _, .nil => .cons r .nil
  | (k0, v) :: vs, (_, d) :: ds, .cons a t => by
    unfold putF putFD
    by_cases e : k0 = f
    · rw [if_pos e, if_pos e]
      exact .cons r t
    · rw [if_neg e, if_neg e]
      exact .cons a (FRel.put r f t)
theorem insOf_ok (ok : Ok K w H h) (r : VR K w x d) (e : insOf d h = some (c, fds)) : ∃ a i C dx fs, x = .ref a ∧ d = .ref i ∧ w.ρ[i]? = some a ∧ h[i]? = some (.ins c fds) ∧ H a = some (.ins C dx fs) ∧ PySem.W.nsIn K PySem.mainGlobals c = some (some (.ref C)) ∧ FRel K w fs fds := by
  cases r <;> simp [insOf] at e
  next a i e1 =>
  split at e
  · next c' fs e2 =>
    cases e
    obtain ⟨_, o, e3, e4⟩ := ok.cel i a _ e1 e2
    cases o <;> simp [CRel] at e4
    next C dx fs => exact ⟨a, i, C, dx, fs, rfl, rfl, e1, e2, e3, e4.1, frel_of e4.2.1 e4.2.2⟩
  · cases e
theorem Ok.iwrite {i : Nat} {a C : Addr} {dx : Addr} {fs : List (Str × V)} (ok : Ok K w H h) (hi : w.ρ[i]? = some a) (hc : PySem.W.nsIn K PySem.mainGlobals c = some (some (.ref C))) (r : FRel K w fs fds) : Ok K w (upd H a (.ins C dx fs)) (h.set i (.ins c fds)) ∧ Step w H w (upd H a (.ins C dx fs)) := ok.write hi ⟨hc, r.fst, r.snd⟩
end
/-- what is known of a class and a name of a field -/
def HasA (K : PySem.W.Frag) (c f : Str) : Prop := ∀ C, PySem.W.nsIn K PySem.mainGlobals c = some (some (.ref C)) → Cls K C ∧ NoAttr K C f
theorem hasA_of {K : PySem.W.Frag} {c f : Str} {C : Addr} (h : PySem.W.nsIn K PySem.mainGlobals c = some (some (.ref C))) (k : Cls K C) (n : NoAttr K C f) : HasA K c f := fun C' h' => by
  have e := h.symm.trans h'
  injection e with e
  injection e with e
  injection e with e
  subst e
  exact ⟨k, n⟩
def mFld (c f : Str) (o : ME) : ME := fun env h => (o env h).bind fun x h1 => ofO (fldD c f x h1) h1
def mSetF (c f : Str) (a o : ME) : MS := fun env h => RsS (a env h) env fun d h1 => RsS (o env h1) env fun od h2 => match od with
  | .ref i => match h2[i]? with
    | some (.ins c' fs) => if c' = c ∧ fs.length < 1000 then .nx env (h2.set i (.ins c (putFD f d fs))) else .stuck
    | _ => .stuck
  | _ => .stuck
/-- o.f += a, ints -/
def mAugF (c f : Str) (g : D → D → Hap → Option D) (o a : ME) : MS := fun env h => RsS (o env h) env fun od h1 => match fldD c f od h1 with
  | some v => RsS (a env h1) env fun d h2 => match od with
    | .ref i => match h2[i]?, g v d h2 with
      | some (.ins c' fs), some z => if c' = c ∧ fs.length < 1000 then .nx env (h2.set i (.ins c (putFD f z fs))) else .stuck
      | _, _ => .stuck
    | _ => .stuck
  | none => .stuck
section
variable {X : Cx} {W : WX} {o e : Expr} {mo me : ME} {c f : Str} {pos pos' apos tpos : Pos}
theorem e_fld (T : HasA X.K c f) (ho : PE X o (tE X.K X.mg W mo)) (hb : attributeBase o f X.env (eval o X.env) = eval o X.env := by rfl) : PE X (.Attribute o f pos) (tE X.K X.mg W (mFld c f mo)) := PE.imp (pe_fld ho hb) fun σ H Q ⟨w, env, h, ok, er, p⟩ =>
  ⟨w, env, h, ok, er, Post.bind p fun x da w1 H1 h1 s1 ok1 v1 p1 => by
    obtain ⟨d, e1, q⟩ := ofO_post p1
    unfold fldD at e1
    split at e1
    · next c' fds e2 =>
      split at e1
      · next hc =>
        subst hc
        obtain ⟨a, i, C, dx, fs, rfl, rfl, h1', h2', h3', h4', r⟩ := insOf_ok ok1 v1 e2
        obtain ⟨k1, k2⟩ := T C h4'
        rcases r.look f with ⟨z1, z2⟩ | ⟨v, d2, z1, z2, z3⟩
        · rw [e1] at z2; cases z2
        · rw [e1] at z2
          cases z2
          exact ⟨a, C, dx, fs, v, rfl, h3', k1, k2, z1, q _ _ _ (Step.refl _ _) ok1 z3⟩
      · cases e1
    · cases e1⟩
theorem s_setF (T : HasA X.K c f) (he : PE X e (tE X.K X.mg W me)) (ho : PE X o (tE X.K X.mg W mo)) (hs : swapsWith e (some (.Attribute o f pos')) pos.line X.env = pure false := by rfl) : PS X (.Assign [.Attribute o f pos'] e pos) (tS X.K X.mg W (mSetF c f me mo)) :=
  PS.imp (ps_fld ho he hs) fun D σ H ⟨w, env, h, ok, er, p⟩ =>
  ⟨w, env, h, ok, er, PostS.bind er p fun y d w1 H1 h1 s1 ok1 v1 p1 => ⟨w1, env, h1, ok1, er.mono s1, PostS.bind (er.mono s1) p1 fun x od w2 H2 h2 s2 ok2 v2 p2 => by
    split at p2
    · next i =>
      split at p2
      · next c' fds ej =>
        split at p2
        · next hl =>
          obtain ⟨rfl, hl⟩ := hl
          obtain ⟨a, i2, C, dx, fs, rfl, e9, h1', h2', h3', h4', r⟩ := insOf_ok (c := c') (fds := fds) ok2 v2 (by unfold insOf; dsimp only; rw [ej])
          cases e9
          obtain ⟨k1, k2⟩ := T C h4'
          have z := ok2.iwrite (dx := dx) h1' h4' (r.put (v1.mono s2) f)
          exact ⟨a, C, dx, fs, rfl, h3', k1, k2, by rw [r.len]; exact hl, p2 σ w2 _ z.2 z.1 ((er.mono s1).mono s2)⟩
        · exact p2.elim
      · exact p2.elim
    · exact p2.elim⟩⟩
end
/-! ### methods, making -/
def isI (c nm : Str) (d : D) (h : Hap) : Bool := match insOf d h with
  | some (c', fs) => decide (c' = c) && (fs.lookup nm).isNone
  | none => false
def mMeth (c nm : Str) (m : MF) (o : ME) (a : MA) : ME := fun env h => (o env h).bind fun x h1 => if isI c nm x h1 = true then (a env h1).bind fun xs h2 => m (x :: xs) h2 else .stuck
def mMake (c : Str) (m : MF) (a : MA) : ME := fun env h => (a env h).bind fun xs h1 => match m (.ref h1.length :: xs) (h1 ++ [.ins c []]) with
  | .ok .non h2 => .ok (.ref h1.length) h2
  | _ => .stuck
/-- a method of the text as the top has left it -/
def HasM (K : PySem.W.Frag) (c nm qual : Str) (st : Stmt) (ps : List Str) : Prop := ∃ C f fd, PySem.W.nsIn K PySem.mainGlobals c = some (some (.ref C)) ∧ Cls K C ∧ Meth K C nm f ∧ Fun K nm qual st f fd ∧ Binds K fd ps []
structure OkM (P : Program) (wd : World) (K : PySem.W.Frag) (mg : Str → Option Value) (base : Heap) (c nm : Str) (k n : Nat) (m : MF) : Prop where
  ex : ∃ C f fd ps, PySem.W.nsIn K PySem.mainGlobals c = some (some (.ref C)) ∧ Cls K C ∧ Meth K C nm f ∧ Binds K fd ps [] ∧ FnOk P wd K mg base (L2N.CX P wd) k f fd ps (spM K mg n m)
/-- a class that can be made, its __init__ -/
def HasC (K : PySem.W.Frag) (mg : Str → Option Value) (c qual : Str) (st : Stmt) (ps : List Str) : Prop := ∃ C f fd, PySem.W.nsIn K PySem.mainGlobals c = some (some (.ref C)) ∧ mg c = some (.ref C) ∧ Mk K C f ∧ Fun K "__init__" qual st f fd ∧ Binds K fd ps []
structure OkC (P : Program) (wd : World) (K : PySem.W.Frag) (mg : Str → Option Value) (base : Heap) (c : Str) (k n : Nat) (m : MF) : Prop where
  ex : ∃ C f fd ps, PySem.W.nsIn K PySem.mainGlobals c = some (some (.ref C)) ∧ mg c = some (.ref C) ∧ Mk K C f ∧ Binds K fd ps [] ∧ FnOk P wd K mg base (L2N.CX P wd) k f fd ps (spM K mg n m)
section
variable {P : Program} {wd : World} {K : PySem.W.Frag} {mg : Str → Option Value} {base : Heap}
theorem OkM.mk' {c nm qual : Str} {st : Stmt} {N ps : List Str} {k n z : Nat} {b : MS} {m : MF} (h : HasM K c nm qual st ps) (S : FnScope N ps (defScope st)) (hn : ps.length = n) (hN : N.length = z) (hm : m = run z b)
    (hbody : ∀ (f : Addr) (cdv : Value) (A : Around) (outer : List PySem.Env) (s : Shared) (H : Hp) (E : XK), Room k (A.deeper (envOfC qual (defScope st) s.heap.objs.size f cdv)) →
      PSs (cxOf (L2N.CX P wd) P wd K mg base N qual (defScope st) f cdv A outer s H E) (defBody st) (tS K mg (fun cls d _ H => E cls d H) b)) : OkM P wd K mg base c nm (k + 1) n m := by
  obtain ⟨C, f, fd, hc, hC, me, F, hb⟩ := h
  subst hn hN hm
  exact ⟨C, f, fd, ps, hc, hC, me, hb, ok_fn F S (hbody f)⟩
theorem OkC.mk' {c qual : Str} {st : Stmt} {N ps : List Str} {k n z : Nat} {b : MS} {m : MF} (h : HasC K mg c qual st ps) (S : FnScope N ps (defScope st)) (hn : ps.length = n) (hN : N.length = z) (hm : m = run z b)
    (hbody : ∀ (f : Addr) (cdv : Value) (A : Around) (outer : List PySem.Env) (s : Shared) (H : Hp) (E : XK), Room k (A.deeper (envOfC qual (defScope st) s.heap.objs.size f cdv)) →
      PSs (cxOf (L2N.CX P wd) P wd K mg base N qual (defScope st) f cdv A outer s H E) (defBody st) (tS K mg (fun cls d _ H => E cls d H) b)) : OkC P wd K mg base c (k + 1) n m := by
  obtain ⟨C, f, fd, hc, hm', M, F, hb⟩ := h
  subst hn hN hm
  exact ⟨C, f, fd, ps, hc, hm', M, hb, ok_fn F S (hbody f)⟩
end
def tMethW (C : Addr) (m : Str) (sp : Sp) (E : L2.St → XK) (ta : TE) (t : TA) : TE := fun σ H Q => ta σ H fun x H1 => ∃ a dx fs, x = .ref a ∧ H1 a = some (.ins C dx fs) ∧ fs.lookup m = none ∧ t σ H1 fun vs H2 => sp (x :: vs) H2 Q (E σ)
section
variable {X : Cx} {W : WX} {CX : CXT} {k j n : Nat} {f C : Addr} {fd : FuncData} {ps : List Str} {sp : Sp} {E : L2.St → XK} {x c m : Str} {p pos apos : Pos} {e o : Expr} {es : List Expr} {ta : TE} {t : TA} {mf : MF} {mo : ME} {ma : MA}
theorem pe_methW {pl : Sem Bool} (he : PE X o ta) (c : Cls X.K C) (hm : Meth X.K C m f) (F : FnOk X.prog X.w X.K X.mg X.base CX k f fd ps sp) (hr : Room k X.A) (hb : Binds X.K fd ps []) (hx : ∀ σ, PassesAt CX X σ (E σ)) (ha : PA X (e :: es) t)
    (hst : starEach (e :: es) X.env = (false, eval e X.env) :: starEach es X.env := by rfl) (hpl : (backTo pos (starEach es X.env)).any (·.1) = false := by rfl)
    (ht : eval (.Call (.Attribute o m apos) (e :: es) [] pos) X.env = (do
      let ov ← eval o X.env
      standAt apos.atName
      let (f, first) ← holding [ov] (getMethod ov m pl)
      callWith pos f first (backTo pos (starEach (e :: es) X.env)) (backToKw pos (keywordEach [] X.env))) := by rfl) :
    PE X (.Call (.Attribute o m apos) (e :: es) [] pos) (tMethW C m sp E ta t) := by
  refine ⟨fun pins s σ H Q I h => ?_⟩
  refine PySem.W.methodCall_KW (pl := pl) (thn (he.run pins s σ H _ I h) fun u s1 ⟨x, H1, I1, rx, a, dx, fs, ex, ea, l, q⟩ => ?_) ht
  subst ex
  obtain rfl : u = Value.ref a := rx
  refine getmeth_ok I1 ea c hm l ?_
  refine PySem.W.callWith_K (first := [.ref a]) (h₀ := X.base) I.ok.mod.kin hm.kp (thn (ha.run pos pins s1 σ H1 _ I1 q) fun us s2 ⟨vs, H2, I2, r, q2⟩ => ⟨I2.kIn, ?_⟩) hst hpl
  exact run_fnS (us := .ref a :: us) (vs := .ref a :: vs) F hr hb (hx σ) I2 (.cons rfl r) q2
theorem pe_methW0 {pl : Sem Bool} (he : PE X o ta) (c : Cls X.K C) (hm : Meth X.K C m f) (F : FnOk X.prog X.w X.K X.mg X.base CX k f fd ps sp) (hr : Room k X.A) (hb : Binds X.K fd ps []) (hx : ∀ σ, PassesAt CX X σ (E σ))
    (ht : eval (.Call (.Attribute o m apos) [] [] pos) X.env = (do
      let ov ← eval o X.env
      standAt apos.atName
      let (f, first) ← holding [ov] (getMethod ov m pl)
      callWith pos f first (backTo pos (starEach [] X.env)) (backToKw pos (keywordEach [] X.env))) := by rfl) :
    PE X (.Call (.Attribute o m apos) [] [] pos) (tMethW C m sp E ta tNil) := by
  refine ⟨fun pins s σ H Q I h => ?_⟩
  refine PySem.W.methodCall_KW (pl := pl) (thn (he.run pins s σ H _ I h) fun u s1 ⟨x, H1, I1, rx, a, dx, fs, ex, ea, l, q⟩ => ?_) ht
  subst ex
  obtain rfl : u = Value.ref a := rx
  refine getmeth_ok I1 ea c hm l ?_
  exact PySem.W.callWith_K0 (first := [.ref a]) I1.kIn hm.kp (run_fnS (us := [.ref a]) (vs := [.ref a]) F hr hb (hx σ) I1 (.cons rfl .nil) q)
theorem isI_ok {K : PySem.W.Frag} {w : Wd} {H : Hp} {h : Hap} {x : V} {d : D} {c nm : Str} {C : Addr} (ok : Ok K w H h) (r : VR K w x d) (e : isI c nm d h = true) (hC : PySem.W.nsIn K PySem.mainGlobals c = some (some (.ref C))) : ∃ a dx fs, x = .ref a ∧ H a = some (.ins C dx fs) ∧ fs.lookup nm = none := by
  unfold isI at e
  split at e
  · next c' fds e2 =>
    rw [Bool.and_eq_true, decide_eq_true_iff] at e
    obtain ⟨rfl, e⟩ := e
    obtain ⟨a, i, C', dx, fs, rfl, rfl, h1', h2', h3', h4', r⟩ := insOf_ok ok r e2
    have e5 := hC.symm.trans h4'
    injection e5 with e5
    injection e5 with e5
    injection e5 with e5
    subst e5
    refine ⟨a, dx, fs, rfl, h3', ?_⟩
    rcases r.look nm with ⟨z1, z2⟩ | ⟨v, d2, z1, z2, z3⟩
    · exact z1
    · rw [z2] at e; cases e
  · cases e
theorem e_meth {pl : Sem Bool} (F : OkM X.prog X.w X.K X.mg X.base c m k n mf) (hr : Room j X.A) (hk : k ≤ j) (tk : L2N.Takes X W) (ho : PE X o (tE X.K X.mg W mo)) (ha : PA X (e :: es) (tA X.K X.mg W ma)) (hn : ∀ env h ds h', ma env h = .ok ds h' → ds.length + 1 = n)
    (hst : starEach (e :: es) X.env = (false, eval e X.env) :: starEach es X.env := by rfl) (hpl : (backTo pos (starEach es X.env)).any (·.1) = false := by rfl)
    (ht : eval (.Call (.Attribute o m apos) (e :: es) [] pos) X.env = (do
      let ov ← eval o X.env
      standAt apos.atName
      let (f, first) ← holding [ov] (getMethod ov m pl)
      callWith pos f first (backTo pos (starEach (e :: es) X.env)) (backToKw pos (keywordEach [] X.env))) := by rfl) :
    PE X (.Call (.Attribute o m apos) (e :: es) [] pos) (tE X.K X.mg W (mMeth c m mf mo ma)) := by
  obtain ⟨C, f, fd, ps, hC, cl, me, hb, F⟩ := F.ex
  refine PE.imp (pe_methW (E := WE W) ho cl me F (hr.mono hk) hb (fun σ => L2N.passAt tk σ) ha hst hpl ht) fun σ H Q ⟨w, env, h, ok, er, p⟩ => ?_
  refine ⟨w, env, h, ok, er, Post.bind p fun x da w1 H1 h1 s1 ok1 v1 p1 => ?_⟩
  by_cases ci : isI c m da h1 = true
  · rw [if_pos ci] at p1
    obtain ⟨a, dx, fs, rfl, ha1, hl1⟩ := isI_ok ok1 v1 ci hC
    refine ⟨a, dx, fs, rfl, ha1, hl1, w1, env, h1, ok1, er.mono s1, ?_⟩
    have hn' := hn env h1
    revert p1 hn'
    cases ma env h1 with
    | ok ds h2 => exact fun p1 hn' vs w' H' s ok' vr => ⟨by rw [List.length_cons, vr.length]; exact hn' ds h2 rfl, w', da :: ds, h2, ok', .cons (v1.mono s) vr, Post.step s p1⟩
    | err c fs h2 => exact fun p1 _ => p1
    | stuck => exact fun p1 _ => p1
  · rw [if_neg ci] at p1
    exact p1.elim
theorem e_meth0 {pl : Sem Bool} (F : OkM X.prog X.w X.K X.mg X.base c m k 1 mf) (hr : Room j X.A) (hk : k ≤ j) (tk : L2N.Takes X W) (ho : PE X o (tE X.K X.mg W mo))
    (ht : eval (.Call (.Attribute o m apos) [] [] pos) X.env = (do
      let ov ← eval o X.env
      standAt apos.atName
      let (f, first) ← holding [ov] (getMethod ov m pl)
      callWith pos f first (backTo pos (starEach [] X.env)) (backToKw pos (keywordEach [] X.env))) := by rfl) :
    PE X (.Call (.Attribute o m apos) [] [] pos) (tE X.K X.mg W (mMeth c m mf mo mNil)) := by
  obtain ⟨C, f, fd, ps, hC, cl, me, hb, F⟩ := F.ex
  refine PE.imp (pe_methW0 (E := WE W) ho cl me F (hr.mono hk) hb (fun σ => L2N.passAt tk σ) ht) fun σ H Q ⟨w, env, h, ok, er, p⟩ => ?_
  refine ⟨w, env, h, ok, er, Post.bind p fun x da w1 H1 h1 s1 ok1 v1 p1 => ?_⟩
  by_cases ci : isI c m da h1 = true
  · rw [if_pos ci] at p1
    obtain ⟨a, dx, fs, rfl, ha1, hl1⟩ := isI_ok ok1 v1 ci hC
    exact ⟨a, dx, fs, rfl, ha1, hl1, rfl, w1, [da], h1, ok1, .cons v1 .nil, p1⟩
  · rw [if_neg ci] at p1
    exact p1.elim
/-! making: the __init__ raises nothing -/
theorem passN : Passes (L2N.CX X.prog X.w) X (fun _ _ _ => False) := fun _ _ _ _ _ _ _ h => by
  obtain ⟨_, _, _, _, _, _, _, _, _, _, _, _, z⟩ := h
  exact z.elim
theorem make_post {K : PySem.W.Frag} {gm : Str → Option Value} {w : Wd} {H : Hp} {h : Hap} {c : Str} {C : Addr} {n : Nat} {vs : List V} {ds : List D} {Q : VK} {E : XK} (ok : Ok K w H h) (r : VRs K w vs ds) (hn : ds.length + 1 = n) (hC : PySem.W.nsIn K PySem.mainGlobals c = some (some (.ref C)))
    (p : Post K gm (VR K) w H (match mf (.ref h.length :: ds) (h ++ [.ins c []]) with | .ok .non h2 => .ok (.ref h.length) h2 | _ => .stuck) Q E) :
    ∀ x dx, H x = none → H dx = none → dx ≠ x → spM K gm n mf (.ref x :: (vs ++ [])) (upd (upd H dx (.own x)) x (.ins C dx [])) (fun v H2 => v = .non ∧ Q (.ref x) H2) (fun _ _ _ => False) := by
  intro x dx hx hdx ne
  obtain ⟨f0, r0⟩ := ok.fresh hdx
  have ok1 : Ok K w (upd H dx (.own x)) h := ok.put f0 r0
  have s1 : Step w H w (upd H dx (.own x)) := (Step.refl w H).put hdx
  have hx1 : upd H dx (.own x) x = none := by rw [upd_ne (Ne.symm ne)]; exact hx
  have q := ok1.cell (c := .ins c []) (o := .ins C dx []) hx1 ⟨hC, rfl, .nil⟩
  have st := s1.trans q.2
  rw [List.append_nil]
  refine ⟨by rw [List.length_cons, r.length]; exact hn, _, .ref h.length :: ds, _, q.1, .cons (.ref ?_) (r.mono st), ?_⟩
  · show (w.ρ ++ [x])[h.length]? = some x
    rw [← ok.len, List.getElem?_append_right (Nat.le_refl _), Nat.sub_self]
    rfl
  · have hix : (w.ρ ++ [x])[h.length]? = some x := by
      rw [← ok.len, List.getElem?_append_right (Nat.le_refl _), Nat.sub_self]
      rfl
    revert p
    cases mf (.ref h.length :: ds) (h ++ [.ins c []]) with
    | ok d h2 =>
      intro p
      cases d <;> try exact p.elim
      exact fun v w' H' s2 ok2 vr => ⟨by cases vr; rfl, p (.ref x) w' H' (st.trans s2) ok2 (.ref (s2.ix hix))⟩
    | err c fs h2 => exact fun p => p.elim
    | stuck => exact fun p => p.elim
theorem e_make (F : OkC X.prog X.w X.K X.mg X.base c k n mf) (hr : Room j X.A) (hk : k + 1 ≤ j) (ha : PA X (e :: es) (tA X.K X.mg W ma)) (hn : ∀ env h ds h', ma env h = .ok ds h' → ds.length + 1 = n) (hg : Gl X c)
    (hdb : (c == ("__debug__" : Str)) = false := by decide) (he : starEach (e :: es) X.env = (false, eval e X.env) :: starEach es X.env := by rfl) (hpl : (backTo pos (starEach es X.env)).any (·.1) = false := by rfl) :
    PE X (.Call (.Name c p) (e :: es) [] pos) (tE X.K X.mg W (mMake c mf ma)) := by
  obtain ⟨C, f, fd, ps, hC, hm, M, hb, F⟩ := F.ex
  refine PE.imp (pe_make M F (hr.mono hk) hg hm hb .nil passN ha hdb he hpl) fun σ H Q ⟨w, env, h, ok, er, q⟩ => ?_
  refine ⟨w, env, h, ok, er, ?_⟩
  have hn' := hn env h
  unfold mMake at q
  revert q hn'
  cases ma env h with
  | ok ds h1 => exact fun q hn' vs w' H' s ok' vr => make_post ok' vr (hn' ds h1 rfl) hC (Post.step s q)
  | err c fs h1 => exact fun q _ => q
  | stuck => exact fun q _ => q
theorem e_make0 (F : OkC X.prog X.w X.K X.mg X.base c k 1 mf) (hr : Room j X.A) (hk : k + 1 ≤ j) (hg : Gl X c) (hdb : (c == ("__debug__" : Str)) = false := by decide) : PE X (.Call (.Name c p) [] [] pos) (tE X.K X.mg W (mMake c mf mNil)) := by
  obtain ⟨C, f, fd, ps, hC, hm, M, hb, F⟩ := F.ex
  exact PE.imp (pe_make0 M F (hr.mono hk) hg hm hb .nil passN hdb) fun σ H Q ⟨w, env, h, ok, er, q⟩ => make_post (vs := []) (ds := []) ok .nil rfl hC q
end
end
end Vi

set_option Elab.async false
set_option linter.all false
set_option autoImplicit false
set_option maxRecDepth 100000
set_option maxHeartbeats 2000000
namespace Vi
open PySem PySem.Spec PySem.Calls PyProof.Rows L2
open scoped Classical
noncomputable section
variable {gm : Str → Option Value}
/-! ### tuple(d) -/
section
variable {pg : Program} {wd : World} {B : Around} {err : Value → Shared → Prop} {st : Shared} {ty : String} {x dx : Addr} {m : Nat} {I : Nat → Value → Prop} {V : Heap → Prop}
/-- st2 is st with the dict's keys in the list at l, all else as it was -/
def Got (I : Nat → Value → Prop) (m : Nat) (st : Shared) (l : Addr) (st2 : Shared) : Prop := ∃ (g : Heap) (t : Nat) (ks : Array Value) (c : Nat), st2 = { st with heap := g, toks := t } ∧ (∀ b o, st.heap.get? b = some o → g.get? b = some o) ∧ g.get? l = some ⟨.type "list", none, .seq ks c, #[]⟩ ∧ ItemsOf I ks m
theorem kdl_collect {R : List Value → Shared → Prop} (src : PySem.W.KdlSrc pg wd ty x dx m I V) (calm : B.handled = none) (v0 : V st.heap) (few : m ≤ sizeLine)
    (go : ∀ (g : Heap) (t : Nat) (ks : Array Value), (∀ b o, st.heap.get? b = some o → g.get? b = some o) → ItemsOf I ks m → R ks.toList { st with heap := g, toks := t }) : wpAny (model pg wd) B (collect (.ref x)) R err st := by
  have lt := src.there _ v0
  have up : ∀ b o, st.heap.get? b = some o → (st.heap.push ⟨.type "list", none, .seq #[] 0, #[]⟩).get? b = some o := fun b o e => Heap.get?_push_of_some _ e
  have new : (st.heap.push ⟨.type "list", none, .seq #[] 0, #[]⟩).get? st.heap.objs.size = some ⟨.type "list", none, .seq #[] 0, #[]⟩ := Heap.get?_push_size _ rfl
  have ext := PySem.W.kdl_extend (A := B) (s := { st with heap := st.heap.push ⟨.type "list", none, .seq #[] 0, #[]⟩ }) (R := fun q st2 => q = .ok (.ret (.ref st.heap.objs.size)) ∧ Got I m st st.heap.objs.size st2)
    src calm (src.keep _ _ v0 fun b _ => up b) st.heap.objs.size (Nat.ne_of_gt lt.1) (Nat.ne_of_gt lt.2) (.ref st.heap.objs.size) 0 new
    (fun g t ks c kp a its => ⟨rfl, g, t, ks, c, rfl, fun b o e => kp b o (fun q => absurd (Heap.lt_size e) (by rw [q]; exact Nat.lt_irrefl _)) (up b o e), a, its⟩) few
  unfold collect
  refine wpAny_bind (wpAny_runValue (codeAny_builtin F.entry_proto_collect ?_))
  simp only [Around.under_plainId F.plain_proto_collect]
  refine wpAny_bind (m := newList []) (wpAny_newObj_type (wpAny_pure ⟨plainId_quiet F.plain_list_iadd _, codeAny_builtin F.entry_list_iadd ?_⟩))
  simp only [Around.under_plainId F.plain_list_iadd]
  refine wpAny_mono ext (fun f st2 z => ?_) fun e st2 z => nomatch z.1
  match f, z with
  | .done f, ⟨e, z⟩ =>
    cases e
    obtain ⟨g, t, ks, c, e, kp, at0, its⟩ := z
    subst e
    dsimp only
    exact wpAny_bind (wpAny_load at0 (wpAny_pure (go g t ks kp its)))
  | .again c, ⟨q, z⟩ =>
    refine ⟨q, codeAny_mono z fun r st3 y => ?_⟩
    obtain ⟨rfl, g, t, ks, c, e, kp, at0, its⟩ := y
    subst e
    dsimp only
    exact wpAny_bind (wpAny_load at0 (wpAny_pure (go g t ks kp its)))
theorem call_tuple_kdl {R : Value → Shared → Prop} (src : PySem.W.KdlSrc pg wd ty x dx m I V) (isx : st.TypeIs (.ref x) ty) (dict : ty = "dict") (calm : B.handled = none) (v0 : V st.heap) (few : m ≤ 16777216)
    (go : ∀ (g : Heap) (t : Nat) (ks : Array Value), (∀ b o, st.heap.get? b = some o → g.get? b = some o) → ItemsOf I ks m → R (.ref g.objs.size) { st with heap := g.push { cls := .type "tuple", data := .seq ks }, toks := t }) :
    wpAny (model pg wd) B (call (.type "tuple") [.ref x]) R err st := by
  subst dict
  have c2 : B.in1.in1.handled = none := calm
  have s1 := sub_tuple_self
  have s2 := init_tuple_lookup
  have s3 := madeHere_tuple
  refine callType_codes (Q₁ := fun v st2 => st2.TypeIs v "tuple" ∧ R v st2) F.called_tuple (F.typeCall_tuple_1 _) F.entry_object_init (codeAny_of_tree ?_) fun v st2 z =>
    ⟨z.1, F.args_object_init_2 v _, object_init_meets F.called_tuple.init.lookup F.called_tuple.made (by decide) pg wd B.in1 _ st2 ⟨z.1, rfl, z.2⟩⟩
  refine wpAny_bind (m := checkBuiltinCall "tuple.__new__" ⟨[.type "tuple", .ref x], []⟩) (wpAny_of_eq (F.newCall_tuple_1 _) (wpAny_pure ⟨plainId_quiet F.plain_tuple_new _, ?_⟩))
  refine codeAny_builtin F.entry_tuple_new ?_
  simp only [Around.under_plainId F.plain_tuple_new]
  wp_walk using wpAny_typeOf isx, kdl_collect (B := B.in1.in1) src c2 v0 (by rw [sizeLine_eq]; exact few)
  intro g t ks up its
  have tz : ks.toList.toArray.size ≤ sizeLine := by rw [Array.toArray_toList, its.1, sizeLine_eq]; omega
  refine wpAny_bind (m := Builtin.Tuple.tupleExact ks.toList.toArray) (wpAny_newObj_type (wpAny_pure ?_) tz)
  rw [Array.toArray_toList]
  exact ⟨⟨_, Heap.get?_push_size _ rfl, rfl⟩, go g t ks up its⟩
end
def rTupD : List V → Hp → VK → Prop := fun xs H Q => ∃ p kvs, xs = [.ref p] ∧ H p = some (.dK kvs) ∧ ∀ q, H q = none → Q (.ref q) (upd H q (.tup (kvs.map fun kv => kV kv.1)))
theorem call_tuple_dK {X : Cx} (hc : X.calm = true) : CallR X (.type "tuple") rTupD := by
  intro pins s σ H xs us Q I r h
  obtain ⟨p, kvs, e, hk, q⟩ := h
  subst e
  obtain ⟨u, eu, rx⟩ := vals1 r
  subst eu
  obtain rfl : u = Value.ref p := rx
  obtain ⟨z, lo, vs, rk, hd⟩ := (show ObjOk X.prog X.w H s.heap p (.dK kvs) from I.hok p _ hk)
  obtain ⟨ep, hat⟩ := hd.dictAt
  have hl : kvs.length = vs.length := Paired.length rk
  have z' : kvs.length ≤ 16777216 := by rw [sizeLine_eq] at z; exact z
  refine call_tuple_kdl (PySem.W.kdl_dict (knd := mixKind X.prog X.w) (kvs := vs) (ep := ep) lo) hd.typeIs rfl (I.ok.hd hc) hat (by rw [← hl]; exact z') fun h' tk acc' hkeep hacc => ?_
  have I1 : Inv X pins σ H { s with heap := h', toks := tk } := I.kept hkeep
  refine ⟨.ref h'.objs.size, upd H h'.objs.size (.tup (kvs.map fun kv => kV kv.1)), I1.laid (t' := tk) (fun b o e => Heap.get?_push_of_some _ e) (Nat.le_refl _) (show ObjOk X.prog X.w _ _ _ (.tup (kvs.map fun kv => kV kv.1)) from ⟨?_, acc'.toList, ?_, ?_⟩), rfl, q _ (I1.hok.fresh (Nat.le_refl _))⟩
  · rw [List.length_map]; exact z
  · have el : acc'.toList.length = acc'.size := by simp
    refine vals_of_at (by rw [List.length_map, el, hacc.1, hl]) fun j x w h1 h2 => ?_
    obtain ⟨k, y, hky, hi⟩ := hacc.2 j w (by rw [← Array.getElem?_toList]; exact h2)
    have e1 : (kvs.map (·.1))[j]? = some k := by
      rw [KV.keys rk, List.getElem?_map, hky] <;> rfl
    have e2 : (kvs.map fun kv => kV kv.1)[j]? = some (kV k) := by
      have e3 : (kvs.map fun kv => kV kv.1) = (kvs.map (·.1)).map kV := by rw [List.map_map] <;> rfl
      rw [e3, List.getElem?_map, e1] <;> rfl
    rw [e2] at h1
    cases h1
    exact keyIs_rel hi
  · rw [Array.toArray_toList]; exact IsTup.new _ _
def dDTup : List D → Hap → Option D := fun ds h => match ds with
  | [d] => (getD d h).map fun kvs => .tup (kvs.map fun kv => keyV kv.1)
  | _ => none
theorem s_dtup {K : PySem.W.Frag} : CallS K rTupD dDTup := by
  intro w H h xs ds d Q ok vr e q
  unfold dDTup at e
  split at e
  · obtain ⟨x, rfl, r⟩ := vrs1 vr
    obtain ⟨kvs, e1, e2⟩ := Option.map_eq_some_iff.mp e
    subst e2
    obtain ⟨p, i, vs, rfl, rfl, h1, h2, h3, r2⟩ := getD_ok ok r e1
    exact ⟨p, vs, rfl, h3, fun l hl => q _ _ _ (ok.alloc hl).2 (ok.alloc hl).1 (vr_tup ok hl r2.keys)⟩
  · cases e
end
end Vi

set_option Elab.async false
set_option linter.all false
set_option autoImplicit false
set_option maxRecDepth 100000
set_option maxHeartbeats 2000000
namespace Vi
open PySem PySem.Spec PyProof.Rows L2
open scoped Classical
noncomputable section
/-! ### what a mirror's result satisfies -/
def Sat {α : Type} (r : Rs α) (P : α → Hap → Prop) : Prop := match r with
  | .ok a h => P a h
  | _ => False
structure Ps where
  n : Env → Hap → Prop
  r : D → Hap → Prop
  b : Env → Hap → Prop := fun _ _ => False
  c : Env → Hap → Prop := fun _ _ => False
def SatS (r : RS) (P : Ps) : Prop := match r with
  | .nx e h => P.n e h
  | .rt d h => P.r d h
  | .bk e h => P.b e h
  | .ct e h => P.c e h
  | _ => False
section
variable {α β : Type} {P : α → Hap → Prop} {Q : Ps} {h : Hap} {env : Env}
theorem Sat.mono {r : Rs α} {P' : α → Hap → Prop} (s : Sat r P) (i : ∀ a h, P a h → P' a h) : Sat r P' := by
  cases r with
  | ok a h => exact i a h s
  | err => exact s
  | stuck => exact s
theorem Sat.ex {r : Rs α} (s : Sat r P) : ∃ a h, r = .ok a h ∧ P a h := by
  cases r with
  | ok a h => exact ⟨a, h, rfl, s⟩
  | err => exact s.elim
  | stuck => exact s.elim
theorem SatS.mono {r : RS} {Q' : Ps} (s : SatS r Q) (i : ∀ e h, Q.n e h → Q'.n e h) (j : ∀ d h, Q.r d h → Q'.r d h) (k : ∀ e h, Q.b e h → Q'.b e h) (l : ∀ e h, Q.c e h → Q'.c e h) : SatS r Q' := by
  cases r with
  | nx e h => exact i e h s
  | rt d h => exact j d h s
  | bk d h => exact k d h s
  | ct d h => exact l d h s
  | er => exact s.elim
  | stuck => exact s.elim
theorem Sat.bind {r : Rs β} {f : β → Hap → Rs α} (s : Sat r fun a h => Sat (f a h) P) : Sat (r.bind f) P := by
  cases r with
  | ok a h => exact s
  | err => exact s.elim
  | stuck => exact s.elim
theorem Sat.bindN {r : Rs β} {f : β → Hap → Rs α} (s : Sat r fun a h => Sat (f a h) P) : Sat (r.bindN f) P := by
  cases r with
  | ok a h => exact s
  | err => exact s.elim
  | stuck => exact s.elim
theorem SatS.of {r : Rs β} {f : β → Hap → RS} (s : Sat r fun a h => SatS (f a h) Q) : SatS (RsS r env f) Q := by
  cases r with
  | ok a h => exact s
  | err => exact s.elim
  | stuck => exact s.elim
/-! ### one step each -/
theorem x_ok {a : α} (p : P a h) : Sat (.ok a h) P := p
theorem x_some {o : Option α} {d : α} (e : o = some d) (p : P d h) : Sat (ofO o h) P := by
  rw [e]
  exact p
theorem x_fun {n : Nat} {b : MS} {ds : List D} {P : D → Hap → Prop} (s : SatS (b (env0 n ds) h) ⟨fun _ h => P .non h, P, fun _ _ => False, fun _ _ => False⟩) : Sat (run n b ds h) P := by
  unfold run
  revert s
  cases b (env0 n ds) h with
  | nx e h => exact fun s => s
  | rt e h => exact fun s => s
  | bk e h => exact fun s => s.elim
  | ct e h => exact fun s => s.elim
  | er => exact fun s => s.elim
  | stuck => exact fun s => s.elim
theorem x_var {i : Nat} {d : D} {P : D → Hap → Prop} (e : env[i]? = some (some d)) (p : P d h) : Sat (mVar i env h) P := by
  unfold mVar
  rw [e]
  exact p
theorem x_c {d : D} {P : D → Hap → Prop} (p : P d h) : Sat (mC d env h) P := p
theorem x_bin {g : D → D → Hap → Option D} {a b : ME} {P : D → Hap → Prop} (s : Sat (a env h) fun x h1 => Sat (b env h1) fun y h2 => Sat (ofO (g x y h2) h2) P) : Sat (mBin g a b env h) P := Sat.bind (s.mono fun _ _ s => Sat.bind s)
theorem x_un {g : D → Hap → Option D} {a : ME} {P : D → Hap → Prop} (s : Sat (a env h) fun x h1 => Sat (ofO (g x h1) h1) P) : Sat (mUn g a env h) P := Sat.bind s
theorem x_tst {a : ME} {P : Bool → Hap → Prop} (s : Sat (a env h) fun x h1 => Sat (ofO (oB x) h1) P) : Sat (mTst a env h) P := Sat.bind s
theorem x_oB {b : Bool} {P : Bool → Hap → Prop} (p : P b h) : Sat (ofO (oB (.bl b)) h) P := p
theorem x_notT {a : MT} {P : Bool → Hap → Prop} (s : Sat (a env h) fun x h1 => P (!x) h1) : Sat (mNotT a env h) P := Sat.bind s
theorem x_andT {a b : MT} {P : Bool → Hap → Prop} (s : Sat (a env h) fun x h1 => (x = true → Sat (b env h1) P) ∧ (x = false → P false h1)) : Sat (mAndT a b env h) P := Sat.bind (s.mono fun x h1 s => by
  cases x with
  | true => exact s.1 rfl
  | false => exact s.2 rfl)
theorem x_orT {a b : MT} {P : Bool → Hap → Prop} (s : Sat (a env h) fun x h1 => (x = true → P true h1) ∧ (x = false → Sat (b env h1) P)) : Sat (mOrT a b env h) P := Sat.bind (s.mono fun x h1 s => by
  cases x with
  | true => exact s.1 rfl
  | false => exact s.2 rfl)
theorem x_and {a b : ME} {P : D → Hap → Prop} (s : Sat (a env h) fun x h1 => ∃ t, x = .bl t ∧ (t = true → Sat (b env h1) P) ∧ (t = false → P (.bl false) h1)) : Sat (mAnd a b env h) P := Sat.bind (s.mono fun x h1 ⟨t, e, s⟩ => by
  subst e
  cases t with
  | true => exact s.1 rfl
  | false => exact s.2 rfl)
theorem x_or {a b : ME} {P : D → Hap → Prop} (s : Sat (a env h) fun x h1 => ∃ t, x = .bl t ∧ (t = true → P (.bl true) h1) ∧ (t = false → Sat (b env h1) P)) : Sat (mOr a b env h) P := Sat.bind (s.mono fun x h1 ⟨t, e, s⟩ => by
  subst e
  cases t with
  | true => exact s.1 rfl
  | false => exact s.2 rfl)
theorem x_not {a : ME} {P : D → Hap → Prop} (s : Sat (a env h) fun x h1 => ∃ t, x = .bl t ∧ P (.bl (!t)) h1) : Sat (mNot a env h) P := Sat.bind (s.mono fun x h1 ⟨t, e, s⟩ => by
  subst e
  exact s)
theorem x_if {t : MT} {a b : ME} {P : D → Hap → Prop} (s : Sat (t env h) fun x h1 => (x = true → Sat (a env h1) P) ∧ (x = false → Sat (b env h1) P)) : Sat (mIf t a b env h) P := Sat.bind (s.mono fun x h1 s => by
  cases x with
  | true => exact s.1 rfl
  | false => exact s.2 rfl)
theorem x_nil {P : List D → Hap → Prop} (p : P [] h) : Sat (mNil env h) P := p
theorem x_cons {a : ME} {r : MA} {P : List D → Hap → Prop} (s : Sat (a env h) fun x h1 => Sat (r env h1) fun xs h2 => P (x :: xs) h2) : Sat (mCons a r env h) P := Sat.bind (s.mono fun _ _ s => Sat.bind s)
theorem x_tup {a : MA} {P : D → Hap → Prop} (s : Sat (a env h) fun xs h1 => xs.length ≤ sizeLine ∧ P (.tup xs) h1) : Sat (mTup a env h) P := Sat.bind (s.mono fun _ _ s => by
  rw [if_pos s.1]
  exact s.2)
theorem x_lst {a : MA} {P : D → Hap → Prop} (s : Sat (a env h) fun xs h1 => xs.length ≤ sizeLine ∧ P (.lst xs) h1) : Sat (mLst a env h) P := Sat.bind (s.mono fun _ _ s => by
  rw [if_pos s.1]
  exact s.2)
theorem x_cel {a : MA} {P : D → Hap → Prop} (s : Sat (a env h) fun xs h1 => xs.length ≤ sizeLine ∧ P (.ref h1.length) (h1 ++ [.lst xs])) : Sat (mCel a env h) P := Sat.bind (s.mono fun _ _ s => by
  rw [if_pos s.1]
  exact s.2)
theorem x_cb {g : List D → Hap → Option D} {a : MA} {P : D → Hap → Prop} (s : Sat (a env h) fun xs h1 => Sat (ofO (g xs h1) h1) P) : Sat (mCB g a env h) P := Sat.bind s
theorem x_met {T : String} {g : D → List D → Hap → Rs D} {o : ME} {a : MA} {P : D → Hap → Prop} (s : Sat (o env h) fun x h1 => isT T x h1 = true ∧ Sat (a env h1) fun xs h2 => Sat (g x xs h2) P) : Sat (mMet T g o a env h) P := Sat.bind (s.mono fun _ _ s => by
  rw [if_pos s.1]
  exact Sat.bind s.2)
theorem x_gP {f : D → List D → Hap → Option D} {a : D} {ds : List D} {d : D} {P : D → Hap → Prop} (e : f a ds h = some d) (p : P d h) : Sat (gP f a ds h) P := x_some e p
theorem x_call {m : MF} {a : MA} {P : D → Hap → Prop} (s : Sat (a env h) fun xs h1 => Sat (m xs h1) P) : Sat (mCall m a env h) P := Sat.bind s
theorem x_noP {P : Option Int → Hap → Prop} (p : P none h) : Sat (mNoP env h) P := p
theorem x_part {a : ME} {P : Option Int → Hap → Prop} (s : Sat (a env h) fun x h1 => Sat (ofO (oI x) h1) P) : Sat (mPart a env h) P := Sat.bind s
theorem x_oI {i : Int} {P : Option Int → Hap → Prop} (p : P (some i) h) : Sat (ofO (oI (.int i)) h) P := p
theorem x_sl {a : ME} {lo hi : MO} {P : D → Hap → Prop} (s : Sat (a env h) fun x h1 => Sat (lo env h1) fun l h2 => Sat (hi env h2) fun u h3 => Sat (ofO (dSl x l u h3) h3) P) : Sat (mSl a lo hi env h) P := Sat.bind (s.mono fun _ _ s => Sat.bind (s.mono fun _ _ s => Sat.bind s))
theorem y_var {i : Nat} {P : D → Hap → Prop} (e : ∃ d, env[i]? = some (some d) ∧ P d h) : Sat (mVar i env h) P := let ⟨_, e, p⟩ := e; x_var e p
theorem y_some {o : Option α} (e : ∃ d, o = some d ∧ P d h) : Sat (ofO o h) P := let ⟨_, e, p⟩ := e; x_some e p
theorem y_gP {f : D → List D → Hap → Option D} {a : D} {ds : List D} {P : D → Hap → Prop} (e : ∃ d, f a ds h = some d ∧ P d h) : Sat (gP f a ds h) P := let ⟨_, e, p⟩ := e; x_gP e p
/-! statements -/
theorem s_seq {a b : MS} (s : SatS (a env h) ⟨fun e h1 => SatS (b e h1) Q, Q.r, Q.b, Q.c⟩) : SatS (mSeq a b env h) Q := by
  unfold mSeq
  revert s
  cases a env h with
  | nx e h => exact fun s => s
  | rt e h => exact fun s => s
  | bk e h => exact fun s => s
  | ct e h => exact fun s => s
  | er => exact fun s => s.elim
  | stuck => exact fun s => s.elim
theorem s_cut {a b : MS} (I : Env → Hap → Prop) (h1 : SatS (a env h) ⟨I, Q.r, Q.b, Q.c⟩) (h2 : ∀ e h, I e h → SatS (b e h) Q) : SatS (mSeq a b env h) Q := s_seq (h1.mono h2 (fun _ _ z => z) (fun _ _ z => z) fun _ _ z => z)
theorem s_seqA {a : ME} {g : MG} {b : MS} (s : SatS (mAsg a g env h) ⟨fun e h1 => SatS (b e h1) Q, Q.r, Q.b, Q.c⟩) : SatS (mSeq (mAsg a g) b env h) Q := s_seq s
theorem s_seqU {a o i : ME} {b : MS} (s : SatS (mSub a o i env h) ⟨fun e h1 => SatS (b e h1) Q, Q.r, Q.b, Q.c⟩) : SatS (mSeq (mSub a o i) b env h) Q := s_seq s
theorem s_seqE {a : ME} {b : MS} (s : SatS (mExp a env h) ⟨fun e h1 => SatS (b e h1) Q, Q.r, Q.b, Q.c⟩) : SatS (mSeq (mExp a) b env h) Q := s_seq s
theorem s_seqN {b : MS} (s : SatS (b env h) Q) : SatS (mSeq mNext b env h) Q := s_seq s
theorem s_next (p : Q.n env h) : SatS (mNext env h) Q := p
theorem s_brk' (p : Q.b env h) : SatS (mBrk env h) Q := p
theorem s_cnt' (p : Q.c env h) : SatS (mCnt env h) Q := p
theorem s_exp' {a : ME} (s : Sat (a env h) fun _ h1 => Q.n env h1) : SatS (mExp a env h) Q := SatS.of s
theorem s_ret' {a : ME} (s : Sat (a env h) fun d h1 => Q.r d h1) : SatS (mRet a env h) Q := SatS.of s
theorem s_retN' (p : Q.r .non h) : SatS (mRetN env h) Q := p
theorem s_if' {t : MT} {a b : MS} (s : Sat (t env h) fun x h1 => (x = true → SatS (a env h1) Q) ∧ (x = false → SatS (b env h1) Q)) : SatS (mIfS t a b env h) Q := SatS.of (s.mono fun x h1 s => by
  cases x with
  | true => exact s.1 rfl
  | false => exact s.2 rfl)
theorem s_asg' {a : ME} {i : Nat} (s : Sat (a env h) fun d h1 => Q.n (env.set i (some d)) h1) : SatS (mAsg a (gNm i) env h) Q := SatS.of s
theorem s_asgT {a : ME} {n : Nat} {b : MGs} (s : Sat (a env h) fun d h1 => ∃ e1, gTp n b d env h1 = some e1 ∧ Q.n e1 h1) : SatS (mAsg a (gTp n b) env h) Q := SatS.of (s.mono fun d h1 ⟨e1, q, p⟩ => by
  rw [q]
  exact p)
theorem s_sub' {a o i : ME} (s : Sat (a env h) fun d h1 => Sat (o env h1) fun od h2 => Sat (i env h2) fun id h3 => ∃ h4, sIx od id d h3 = some h4 ∧ Q.n env h4) : SatS (mSub a o i env h) Q := SatS.of (s.mono fun _ _ s => SatS.of (s.mono fun _ _ s => SatS.of (s.mono fun _ _ ⟨h4, q, p⟩ => by
  rw [q]
  exact p)))
theorem s_aug' {a : ME} {i : Nat} {g : D → D → Hap → Option D} {d0 : D} (e : env[i]? = some (some d0)) (s : Sat (a env h) fun d h1 => ∃ d2, g d0 d h1 = some d2 ∧ Q.n (env.set i (some d2)) h1) : SatS (mAug i g a env h) Q := by
  unfold mAug
  rw [e]
  exact SatS.of (s.mono fun _ _ ⟨d2, q, p⟩ => by
    rw [q]
    exact p)
/-- a loop by what holds between two turns: pre, the items taken -/
theorem s_forI {s : MI} {g : MG} {b : MS} (I : List D → List D → Env → Hap → Prop) (hs : Sat (s env h) fun s h1 => I [] s.1 env h1 ∧ (∀ pre post e h, s.1 = pre ++ post → I pre post e h → s.2 h) ∧
      (∀ pre x post e h, s.1 = pre ++ x :: post → I pre (x :: post) e h → ∃ e1, g x e h = some e1 ∧ SatS (b e1 h) ⟨fun e h => I (pre ++ [x]) post e h, Q.r, Q.n, fun e h => I (pre ++ [x]) post e h⟩) ∧
      (∀ e h, I s.1 [] e h → Q.n e h)) : SatS (mFor s g b env h) Q := SatS.of (hs.mono fun s h1 ⟨h0, hg, ht, he⟩ => by
  obtain ⟨xs, gd⟩ := s
  have go : ∀ (post pre : List D) (e : Env) (h : Hap), xs = pre ++ post → I pre post e h → SatS (forL gd g b post e h) Q := by
    intro post
    induction post with
    | nil =>
      intro pre e h q i
      unfold forL
      rw [if_pos (hg pre [] e h q i)]
      rw [List.append_nil] at q
      subst q
      exact he e h i
    | cons x post ih =>
      intro pre e h q i
      unfold forL
      rw [if_pos (hg pre _ e h q i)]
      obtain ⟨e1, q1, t⟩ := ht pre x post e h q i
      rw [q1]
      show SatS ((b e1 h).turn (forL gd g b post)) Q
      revert t
      cases b e1 h with
      | nx e2 h2 => exact fun t => ih (pre ++ [x]) e2 h2 (by simpa using q) t
      | ct e2 h2 => exact fun t => ih (pre ++ [x]) e2 h2 (by simpa using q) t
      | bk e2 h2 => exact fun t => t
      | rt d h2 => exact fun t => t
      | er => exact fun t => t.elim
      | stuck => exact fun t => t.elim
  exact go xs [] env h1 rfl h0)
/-- a comprehension likewise: acc, what is made so far -/
theorem x_compI {s : MI} {vs : List Nat} {g : MG} {c : MT} {e : ME} {P : D → Hap → Prop} (I : List D → List D → Hap → List D → Prop) (hs : Sat (s env h) fun s h1 => I [] s.1 h1 [] ∧ (∀ pre post h acc, s.1 = pre ++ post → I pre post h acc → s.2 h) ∧
      (∀ pre x post h acc, s.1 = pre ++ x :: post → I pre (x :: post) h acc → ∃ e1, g x (wipeE env vs) h = some e1 ∧ Sat (c e1 h) fun t h1 => (t = true → acc.length < sizeLine ∧ Sat (e e1 h1) fun y h2 => I (pre ++ [x]) post h2 (acc ++ [y])) ∧ (t = false → I (pre ++ [x]) post h1 acc)) ∧
      (∀ h acc, I s.1 [] h acc → P (.lst acc) h)) : Sat (mComp s vs g c e env h) P := Sat.bind (hs.mono fun s h1 ⟨h0, hg, ht, he⟩ => by
  obtain ⟨xs, gd⟩ := s
  refine Sat.bindN ?_
  have go : ∀ (post pre : List D) (h : Hap) (acc : List D), xs = pre ++ post → I pre post h acc → Sat (compL gd vs g c e env post h acc) fun ys h2 => Sat (.ok (.lst ys) h2) P := by
    intro post
    induction post with
    | nil =>
      intro pre h acc q i
      unfold compL
      rw [if_pos (hg pre [] h acc q i)]
      rw [List.append_nil] at q
      subst q
      exact he h acc i
    | cons x post ih =>
      intro pre h acc q i
      unfold compL
      rw [if_pos (hg pre _ h acc q i)]
      obtain ⟨e1, q1, t⟩ := ht pre x post h acc q i
      rw [q1]
      refine Sat.bindN (t.mono fun t h1 z => ?_)
      cases t with
      | false => exact ih (pre ++ [x]) h1 acc (by simpa using q) (z.2 rfl)
      | true =>
        obtain ⟨hl, z⟩ := z.1 rfl
        refine Sat.bindN (z.mono fun y h2 z => ?_)
        rw [if_pos hl]
        exact ih (pre ++ [x]) h2 (acc ++ [y]) (by simpa using q) z
  exact go xs [] h1 [] rfl h0)
theorem x_yes {P : Bool → Hap → Prop} (p : P true h) : Sat (mYes env h) P := p
theorem x_mI {m : ME} {P : List D × (Hap → Prop) → Hap → Prop} (s : Sat (m env h) fun d h1 => ∃ xs, seqOf d h1 = some xs ∧ P (xs, fun h => seqOf d h = some xs) h1) : Sat (mI m env h) P := Sat.bind (s.mono fun d h1 ⟨xs, q, p⟩ => by
  rw [q]
  exact p)
theorem x_rng {f : List D → Option (List D × (Hap → Prop))} {a : MA} {P : List D × (Hap → Prop) → Hap → Prop} (s : Sat (a env h) fun xs h1 => Sat (ofO (f xs) h1) P) : Sat (mRng f a env h) P := Sat.bind s
theorem x_rng1 {j : Int} {P : List D × (Hap → Prop) → Hap → Prop} (hl : -(2 ^ 62) ≤ j ∧ j < 2 ^ 62) (p : P (rngL 0 j.toNat, fun _ => True) h) : Sat (ofO (rng1 [.int j]) h) P := x_some (if_pos hl) p
/-! values -/
theorem v_mod {i j : Int} {P : D → Hap → Prop} (hj : j ≠ 0) (p : P (.int (i.fmod j)) h) : Sat (ofO (dMod (.int i) (.int j) h) h) P := x_some (if_pos hj) p
theorem v_div {i j : Int} {P : D → Hap → Prop} (hj : CDivN i j) (p : P (.int (i.fdiv j)) h) : Sat (ofO (dDiv (.int i) (.int j) h) h) P := x_some (if_pos hj) p
theorem v_mul {i j : Int} {P : D → Hap → Prop} (hj : CMul i j) (p : P (.int (i * j)) h) : Sat (ofO (dMul (.int i) (.int j) h) h) P := x_some (if_pos hj) p
theorem v_pow {i j : Int} {P : D → Hap → Prop} (hj : CPow i j) (p : P (.int (i ^ j.toNat)) h) : Sat (ofO (dPow (.int i) (.int j) h) h) P := x_some (if_pos hj) p
theorem v_adds {x y : Str} {P : D → Hap → Prop} (hl : x.length + y.length ≤ sizeLine) (p : P (.str (x ++ y)) h) : Sat (ofO (dAdd (.str x) (.str y) h) h) P := x_some (if_pos hl) p
theorem v_muls {x : Str} {n : Int} {P : D → Hap → Prop} (hl : 0 ≤ n ∧ n < 2 ^ 62 ∧ x.length * n.toNat ≤ sizeLine) (p : P (.str ⟨(List.replicate n.toNat x.cps.toList).flatten.toArray⟩) h) : Sat (ofO (dMul (.str x) (.int n) h) h) P := x_some (if_pos hl) p
theorem v_lens {x : Str} {P : D → Hap → Prop} (hl : x.length ≤ sizeLine) (p : P (.int x.length) h) : Sat (ofO (dLen [.str x] h) h) P := x_some (if_pos hl) p
theorem v_ixS {z : Str} {i : Int} {c : Nat} {P : D → Hap → Prop} (hl : z.length ≤ sizeLine) (e : atI z.cps.toList i = some c) (p : P (.str (ch c)) h) : Sat (ofO (dIx (.str z) (.int i) h) h) P := x_some (Eq.trans (if_pos hl) (by rw [e]; rfl)) p
theorem v_slS {z : Str} {l u : Option Int} {P : D → Hap → Prop} (hl : z.length ≤ sizeLine) (p : P (.str (cutS z l u)) h) : Sat (ofO (dSl (.str z) l u h) h) P := x_some (if_pos hl) p
theorem v_split {a b : Str} {P : D → Hap → Prop} (hl : (b.length == 0) = false ∧ a.length + 2 ≤ sizeLine) (p : P (.lst ((Txt.split a b).map .str)) h) : Sat (gP dSplit (.str a) [.str b] h) P := x_some (if_pos hl) p
end
theorem strsOf_map : ∀ xs : List Str, strsOf (xs.map D.str) = some xs
  | [] => rfl
  | x :: xs => by simp [strsOf, strsOf_map xs]
theorem v_join {a : Str} {d : D} {ys : List Str} {h : Hap} {P : D → Hap → Prop} (e : getQ d h = some (ys.map .str)) (hl : (ys.map (·.length)).sum + ys.length * a.length ≤ 16777216) (p : P (.str (Txt.join a ys)) h) : Sat (gP dJoin (.str a) [d] h) P := x_some (by
  unfold dJoin
  simp only []
  rw [e]
  simp only [Option.bind_some, strsOf_map]
  rw [if_pos hl]) p
theorem blsOf_map : ∀ xs : List Bool, blsOf (xs.map D.bl) = some xs
  | [] => rfl
  | x :: xs => by simp [blsOf, blsOf_map xs]
theorem v_all {d : D} {bs : List Bool} {h : Hap} {P : D → Hap → Prop} (e : getL d h = some (bs.map .bl)) (p : P (.bl (bs.all id)) h) : Sat (ofO (dAll [d] h) h) P := x_some (by unfold dAll; simp only [e, Option.bind_some, blsOf_map, Option.map_some]) p
theorem v_any {d : D} {bs : List Bool} {h : Hap} {P : D → Hap → Prop} (e : getL d h = some (bs.map .bl)) (p : P (.bl (bs.any id)) h) : Sat (ofO (dAny [d] h) h) P := x_some (by unfold dAny; simp only [e, Option.bind_some, blsOf_map, Option.map_some]) p
theorem v_lenQ {d : D} {xs : List D} {h : Hap} {P : D → Hap → Prop} (e : getQ d h = some xs) (hd : ∀ z, d ≠ .str z) (p : P (.int xs.length) h) : Sat (ofO (dLen [d] h) h) P := x_some (by
  unfold dLen
  split
  · next z q => injection q with q1; exact absurd q1 (hd z)
  · next d' _ q => injection q with q1; subst q1; rw [e]; rfl
  · next q1 q2 => exact absurd rfl (q2 d)) p
theorem atI_ok {α : Type} {xs : List α} {i : Int} (h0 : 0 ≤ i) (h1 : i < xs.length) : ∃ x, atI xs i = some x ∧ x ∈ xs ∧ xs[i.toNat]? = some x := by
  have hl : i.toNat < xs.length := by omega
  refine ⟨xs[i.toNat], ?_, List.getElem_mem hl, List.getElem?_eq_getElem hl⟩
  unfold atI ixN
  rw [if_pos h0, if_pos h1]
  simp [hl]
theorem sl_le {n : Nat} (h : n ≤ 16777216) : n ≤ sizeLine := by rw [sizeLine_eq]; exact h
end
end Vi

set_option Elab.async false
set_option linter.all false
set_option autoImplicit false
set_option maxRecDepth 100000
namespace Mi
open PySem PyProof.Rows L2 Vi
noncomputable section
def b_is_segment : MS := (mSeq (mIfS (mOrT (mTst (mBin dEq (mVar 0) (mC (.str "")))) (mTst (mBin dGt (mCB dLen (mCons (mVar 0) mNil)) (mC (.int 20))))) (mRet (mC (.bl false))) mNext)
    (mSeq (mIfS (mTst (mBin dNotIn (mBin dIx (mVar 0) (mC (.int 0))) (mC (.str "abcdefghijklmnopqrstuvwxyz0123456789")))) (mRet (mC (.bl false))) mNext)
    (mRet (mCB dAll (mCons (mComp (mI (mVar 0)) [1] (gNm 1) mYes (mBin dIn (mVar 1) (mC (.str "abcdefghijklmnopqrstuvwxyz0123456789_-.")))) mNil)))))
def m_is_segment : MF := run 2 b_is_segment
def b_lies_in : MS := (mRet (mOr (mBin dEq (mVar 1) (mC (.str ""))) (mMet "str" (gP dStarts) (mVar 0) (mCons (mBin dAdd (mVar 1) (mC (.str "/"))) mNil))))
def m_lies_in : MF := run 2 b_lies_in
def b_law_next : MS := (mSeq (mIfS (mTst (mBin dGt (mBin dIx (mVar 0) (mC (.int 1))) (mC (.int 0)))) (mSeq (mAsg (mBin dMod (mCB dInt (mCons (mBin dIx (mVar 0) (mC (.int 1))) mNil)) (mVar 2)) (gNm 3))
    (mSeq (mSub (mBin dDiv (mCB dInt (mCons (mBin dIx (mVar 0) (mC (.int 1))) mNil)) (mVar 2)) (mVar 0) (mC (.int 1)))
    (mRet (mVar 3)))) mNext)
    (mSeq (mAsg (mC (.int 0)) (gNm 4))
    (mSeq (mIfS (mTst (mBin dLt (mBin dIx (mVar 0) (mC (.int 0))) (mCB dLen (mCons (mVar 1) mNil)))) (mAsg (mCB dAbs (mCons (mCB dInt (mCons (mBin dIx (mVar 1) (mBin dIx (mVar 0) (mC (.int 0)))) mNil)) mNil)) (gNm 4)) mNext)
    (mSeq (mSub (mBin dAdd (mBin dIx (mVar 0) (mC (.int 0))) (mC (.int 1))) (mVar 0) (mC (.int 0)))
    (mSeq (mIfS (mTst (mBin dGe (mVar 4) (mBin dPow (mC (.int 10)) (mC (.int 18))))) (mSeq (mSub (mBin dDiv (mVar 4) (mVar 2)) (mVar 0) (mC (.int 1)))
    (mRet (mBin dMod (mCB dInt (mCons (mVar 4) mNil)) (mVar 2)))) mNext)
    (mSeq (mSub (mBin dMod (mCB dInt (mCons (mBin dAdd (mBin dAdd (mBin dMul (mBin dIx (mVar 0) (mC (.int 2))) (mC (.int 48271))) (mBin dMul (mVar 4) (mC (.int 69621)))) (mC (.int 12345))) mNil)) (mC (.int 2147483647))) (mVar 0) (mC (.int 2)))
    (mRet (mBin dMod (mCB dInt (mCons (mBin dAdd (mBin dDiv (mBin dIx (mVar 0) (mC (.int 2))) (mC (.int 7))) (mBin dDiv (mBin dMul (mBin dIx (mVar 0) (mC (.int 2))) (mBin dIx (mVar 0) (mC (.int 2)))) (mC (.int 65537)))) mNil)) (mVar 2)))))))))
def m_law_next : MF := run 5 b_law_next
def b_law_yes : MS := (mRet (mAnd (mCB dIsi (mCons (mVar 0) (mCons (mC (.ty "bool")) mNil))) (mBin dEq (mVar 0) (mVar 1))))
def m_law_yes : MF := run 2 b_law_yes
def b_law_lies : MS := (mRet (mOr (mBin dEq (mVar 1) (mC (.str ""))) (mBin dEq (mSl (mVar 0) mNoP (mPart (mBin dAdd (mCB dLen (mCons (mVar 1) mNil)) (mC (.int 1))))) (mBin dAdd (mVar 1) (mC (.str "/"))))))
def m_law_lies : MF := run 2 b_law_lies
def b_law_char : MS := (mSeq (mAsg (mC (.str " !\"#$&'()*+,-./0123456789:;<=>?@ABCDEFGHIJKLMNOPQRSTUVWXYZ[\\]^_`")) (gNm 1))
    (mSeq (mAsg (mBin dAdd (mVar 1) (mC (.str "abcdefghijklmnopqrstuvwxyz{|}~\n"))) (gNm 1))
    (mRet (mBin dIx (mVar 1) (mVar 0)))))
def m_law_char : MF := run 2 b_law_char
def b_law_is_segment : MS := (mSeq (mAsg (mC (.str "abcdefghijklmnopqrstuvwxyz0123456789")) (gNm 1))
    (mSeq (mIfS (mOrT (mTst (mBin dLt (mCB dLen (mCons (mVar 0) mNil)) (mC (.int 1)))) (mOrT (mTst (mBin dGt (mCB dLen (mCons (mVar 0) mNil)) (mC (.int 20)))) (mTst (mBin dNotIn (mBin dIx (mVar 0) (mC (.int 0))) (mVar 1))))) (mRet (mC (.bl false))) mNext)
    (mSeq (mFor (mI (mVar 0)) (gNm 2) (mIfS (mTst (mBin dNotIn (mVar 2) (mBin dAdd (mVar 1) (mC (.str "_-."))))) (mRet (mC (.bl false))) mNext))
    (mRet (mC (.bl true))))))
def m_law_is_segment : MF := run 3 b_law_is_segment
def b_is_path : MS := (mSeq (mAsg (mMet "str" (gP dSplit) (mVar 0) (mCons (mC (.str "/")) mNil)) (gNm 1))
    (mSeq (mIfS (mTst (mBin dGt (mCB dLen (mCons (mVar 1) mNil)) (mC (.int 5)))) (mRet (mC (.bl false))) mNext)
    (mRet (mCB dAll (mCons (mComp (mI (mVar 1)) [2] (gNm 2) mYes (mCall Mi.m_is_segment (mCons (mVar 2) mNil))) mNil)))))
def m_is_path : MF := run 3 b_is_path
def b_law_segment : MS := (mSeq (mAsg (mC (.str "abcdefghijklmnopqrstuvwxyz0123456789")) (gNm 2))
    (mSeq (mAsg (mBin dAdd (mVar 2) (mC (.str "_-."))) (gNm 3))
    (mSeq (mAsg (mBin dAdd (mC (.int 1)) (mCall Mi.m_law_next (mCons (mVar 0) (mCons (mVar 1) (mCons (mC (.int 4)) mNil))))) (gNm 4))
    (mSeq (mIfS (mTst (mBin dEq (mVar 4) (mC (.int 4)))) (mAsg (mBin dAdd (mC (.int 1)) (mCall Mi.m_law_next (mCons (mVar 0) (mCons (mVar 1) (mCons (mC (.int 20)) mNil))))) (gNm 4)) mNext)
    (mSeq (mAsg (mBin dIx (mVar 2) (mCall Mi.m_law_next (mCons (mVar 0) (mCons (mVar 1) (mCons (mC (.int 36)) mNil))))) (gNm 5))
    (mSeq (mFor (mRng rng1 (mCons (mBin dSub (mVar 4) (mC (.int 1))) mNil)) (gNm 6) (mAsg (mBin dAdd (mVar 5) (mBin dIx (mVar 3) (mCall Mi.m_law_next (mCons (mVar 0) (mCons (mVar 1) (mCons (mC (.int 39)) mNil)))))) (gNm 5)))
    (mRet (mVar 5))))))))
def m_law_segment : MF := run 7 b_law_segment
def b_law_words : MS := (mSeq (mAsg (mC (.str "")) (gNm 2))
    (mSeq (mFor (mRng rng1 (mCons (mCall Mi.m_law_next (mCons (mVar 0) (mCons (mVar 1) (mCons (mC (.int 7)) mNil)))) mNil)) (gNm 3) (mSeq (mAsg (mCall Mi.m_law_next (mCons (mVar 0) (mCons (mVar 1) (mCons (mC (.int 12)) mNil)))) (gNm 4))
    (mIfS (mTst (mBin dLt (mVar 4) (mC (.int 6)))) (mAsg (mBin dAdd (mVar 2) (mBin dIx (mLst (mCons (mC (.str "a")) (mCons (mC (.str "b")) (mCons (mC (.str "ab")) (mCons (mC (.str "\n")) (mCons (mC (.str " ")) (mCons (mC (.str "one\n")) mNil))))))) (mVar 4))) (gNm 2)) (mAsg (mBin dAdd (mVar 2) (mCall Mi.m_law_char (mCons (mCall Mi.m_law_next (mCons (mVar 0) (mCons (mVar 1) (mCons (mC (.int 95)) mNil)))) mNil))) (gNm 2)))))
    (mRet (mVar 2))))
def m_law_words : MF := run 5 b_law_words
def b_law_is_path : MS := (mSeq (mAsg (mMet "str" (gP dSplit) (mVar 0) (mCons (mC (.str "/")) mNil)) (gNm 1))
    (mRet (mAnd (mBin dLt (mCB dLen (mCons (mVar 1) mNil)) (mC (.int 6))) (mBin dEq (mCB dLen (mCons (mComp (mI (mVar 1)) [2] (gNm 2) (mNotT (mTst (mCall Mi.m_law_is_segment (mCons (mVar 2) mNil)))) (mC (.int 1))) mNil)) (mC (.int 0))))))
def m_law_is_path : MF := run 3 b_law_is_path
def b_is_folder : MS := (mRet (mOr (mBin dEq (mVar 0) (mC (.str ""))) (mCall Mi.m_is_path (mCons (mVar 0) mNil))))
def m_is_folder : MF := run 1 b_is_folder
def b_law_part : MS := (mSeq (mAsg (mCall Mi.m_law_next (mCons (mVar 0) (mCons (mVar 1) (mCons (mC (.int 8)) mNil)))) (gNm 2))
    (mSeq (mIfS (mTst (mBin dLt (mVar 2) (mC (.int 5)))) (mRet (mBin dIx (mLst (mCons (mC (.str "a")) (mCons (mC (.str "b")) (mCons (mC (.str "ab")) (mCons (mC (.str "a.b")) (mCons (mC (.str "build")) mNil)))))) (mVar 2))) mNext)
    (mRet (mCall Mi.m_law_segment (mCons (mVar 0) (mCons (mVar 1) mNil))))))
def m_law_part : MF := run 3 b_law_part
def b_law_path : MS := (mSeq (mAsg (mBin dAdd (mC (.int 1)) (mCall Mi.m_law_next (mCons (mVar 0) (mCons (mVar 1) (mCons (mC (.int 3)) mNil))))) (gNm 2))
    (mSeq (mIfS (mTst (mBin dEq (mVar 2) (mC (.int 3)))) (mAsg (mBin dAdd (mC (.int 1)) (mCall Mi.m_law_next (mCons (mVar 0) (mCons (mVar 1) (mCons (mC (.int 5)) mNil))))) (gNm 2)) mNext)
    (mRet (mMet "str" (gP dJoin) (mC (.str "/")) (mCons (mComp (mRng rng1 (mCons (mVar 2) mNil)) [3] (gNm 3) mYes (mCall Mi.m_law_part (mCons (mVar 0) (mCons (mVar 1) mNil)))) mNil)))))
def m_law_path : MF := run 4 b_law_path
def b_law_text : MS := (mSeq (mAsg (mCall Mi.m_law_next (mCons (mVar 0) (mCons (mVar 1) (mCons (mC (.int 4)) mNil)))) (gNm 2))
    (mSeq (mIfS (mTst (mBin dEq (mVar 2) (mC (.int 0)))) (mRet (mCall Mi.m_law_words (mCons (mVar 0) (mCons (mVar 1) mNil)))) mNext)
    (mSeq (mAsg (mCall Mi.m_law_segment (mCons (mVar 0) (mCons (mVar 1) mNil))) (gNm 3))
    (mSeq (mIfS (mTst (mBin dGt (mVar 2) (mC (.int 1)))) (mAsg (mMet "str" (gP dJoin) (mC (.str "/")) (mCons (mComp (mRng rng1 (mCons (mBin dAdd (mC (.int 1)) (mCall Mi.m_law_next (mCons (mVar 0) (mCons (mVar 1) (mCons (mBin dIx (mLst (mCons (mC (.int 7)) (mCons (mC (.int 7)) (mCons (mC (.int 30)) mNil)))) (mCall Mi.m_law_next (mCons (mVar 0) (mCons (mVar 1) (mCons (mC (.int 3)) mNil))))) mNil))))) mNil)) [8] (gNm 8) mYes (mCall Mi.m_law_part (mCons (mVar 0) (mCons (mVar 1) mNil)))) mNil)) (gNm 3)) mNext)
    (mSeq (mIfS (mTst (mBin dEq (mCall Mi.m_law_next (mCons (mVar 0) (mCons (mVar 1) (mCons (mC (.int 3)) mNil)))) (mC (.int 0)))) (mAsg (mBin dAdd (mBin dAdd (mVar 3) (mCall Mi.m_law_segment (mCons (mVar 0) (mCons (mVar 1) mNil)))) (mCall Mi.m_law_segment (mCons (mVar 0) (mCons (mVar 1) mNil)))) (gNm 3)) mNext)
    (mSeq (mIfS (mTst (mBin dEq (mCall Mi.m_law_next (mCons (mVar 0) (mCons (mVar 1) (mCons (mC (.int 8)) mNil)))) (mC (.int 0)))) (mAsg (mBin dMul (mVar 3) (mBin dAdd (mC (.int 1)) (mCall Mi.m_law_next (mCons (mVar 0) (mCons (mVar 1) (mCons (mC (.int 14)) mNil)))))) (gNm 3)) mNext)
    (mSeq (mFor (mRng rng1 (mCons (mBin dIx (mLst (mCons (mC (.int 1)) (mCons (mC (.int 1)) (mCons (mC (.int 2)) (mCons (mC (.int 3)) mNil))))) (mCall Mi.m_law_next (mCons (mVar 0) (mCons (mVar 1) (mCons (mC (.int 4)) mNil))))) mNil)) (gNm 4) (mSeq (mAsg (mCall Mi.m_law_next (mCons (mVar 0) (mCons (mVar 1) (mCons (mBin dAdd (mCB dLen (mCons (mVar 3) mNil)) (mC (.int 1))) mNil)))) (gNm 5))
    (mSeq (mAsg (mCall Mi.m_law_next (mCons (mVar 0) (mCons (mVar 1) (mCons (mC (.int 6)) mNil)))) (gNm 6))
    (mSeq (mAsg (mCall Mi.m_law_char (mCons (mCall Mi.m_law_next (mCons (mVar 0) (mCons (mVar 1) (mCons (mC (.int 95)) mNil)))) mNil)) (gNm 7))
    (mSeq (mIfS (mTst (mBin dEq (mVar 6) (mC (.int 0)))) (mAsg (mBin dAdd (mBin dAdd (mSl (mVar 3) mNoP (mPart (mVar 5))) (mVar 7)) (mSl (mVar 3) (mPart (mVar 5)) mNoP)) (gNm 3)) mNext)
    (mSeq (mIfS (mTst (mBin dEq (mVar 6) (mC (.int 1)))) (mAsg (mBin dAdd (mBin dAdd (mSl (mVar 3) mNoP (mPart (mVar 5))) (mVar 7)) (mSl (mVar 3) (mPart (mBin dAdd (mVar 5) (mC (.int 1)))) mNoP)) (gNm 3)) mNext)
    (mIfS (mTst (mBin dEq (mVar 6) (mC (.int 2)))) (mAsg (mBin dAdd (mSl (mVar 3) mNoP (mPart (mVar 5))) (mSl (mVar 3) (mPart (mBin dAdd (mVar 5) (mC (.int 1)))) mNoP)) (gNm 3)) mNext)))))))
    (mRet (mVar 3)))))))))
def m_law_text : MF := run 9 b_law_text
def b_law_folder : MS := (mSeq (mIfS (mTst (mBin dEq (mCall Mi.m_law_next (mCons (mVar 0) (mCons (mVar 1) (mCons (mC (.int 4)) mNil)))) (mC (.int 0)))) (mRet (mC (.str ""))) mNext)
    (mRet (mCall Mi.m_law_path (mCons (mVar 0) (mCons (mVar 1) mNil)))))
def m_law_folder : MF := run 2 b_law_folder
def b_law : MS := (mSeq (mAsg (mCel (mCons (mC (.int 0)) (mCons (mC (.int 0)) (mCons (mC (.int 1)) mNil)))) (gNm 1))
    (mSeq (mAsg (mCall Mi.m_law_text (mCons (mVar 1) (mCons (mVar 0) mNil))) (gNm 2))
    (mSeq (mAsg (mCall Mi.m_law_is_path (mCons (mVar 2) mNil)) (gNm 3))
    (mSeq (mIfS (mOrT (mNotT (mTst (mCall Mi.m_law_yes (mCons (mCall Mi.m_is_segment (mCons (mVar 2) mNil)) (mCons (mCall Mi.m_law_is_segment (mCons (mVar 2) mNil)) mNil))))) (mNotT (mTst (mCall Mi.m_law_yes (mCons (mCall Mi.m_is_path (mCons (mVar 2) mNil)) (mCons (mVar 3) mNil)))))) (mRet (mC (.bl false))) mNext)
    (mSeq (mIfS (mNotT (mTst (mCall Mi.m_law_yes (mCons (mCall Mi.m_is_folder (mCons (mVar 2) mNil)) (mCons (mOr (mVar 3) (mBin dEq (mVar 2) (mC (.str "")))) mNil))))) (mRet (mC (.bl false))) mNext)
    (mSeq (mAsg (mCall Mi.m_law_path (mCons (mVar 1) (mCons (mVar 0) mNil))) (gNm 4))
    (mSeq (mAsg (mCall Mi.m_law_folder (mCons (mVar 1) (mCons (mVar 0) mNil))) (gNm 5))
    (mSeq (mAsg (mCall Mi.m_law_next (mCons (mVar 1) (mCons (mVar 0) (mCons (mC (.int 4)) mNil)))) (gNm 6))
    (mSeq (mIfS (mTst (mBin dEq (mVar 6) (mC (.int 0)))) (mAsg (mVar 4) (gNm 5)) mNext)
    (mSeq (mIfS (mTst (mBin dEq (mVar 6) (mC (.int 1)))) (mSeq (mAsg (mBin dAdd (mSl (mVar 4) mNoP (mPart (mBin dSub (mCB dLen (mCons (mVar 4) mNil)) (mC (.int 1))))) (mC (.str "a/b"))) (gNm 4))
    (mAsg (mSl (mVar 4) mNoP (mPart (mBin dSub (mBin dSub (mCB dLen (mCons (mVar 4) mNil)) (mC (.int 2))) (mCall Mi.m_law_next (mCons (mVar 1) (mCons (mVar 0) (mCons (mC (.int 2)) mNil))))))) (gNm 5))) mNext)
    (mSeq (mIfS (mOrT (mNotT (mTst (mCall Mi.m_law_is_path (mCons (mVar 4) mNil)))) (mNotT (mOrT (mTst (mBin dEq (mVar 5) (mC (.str "")))) (mTst (mCall Mi.m_law_is_path (mCons (mVar 5) mNil)))))) (mRet (mC (.bl true))) mNext)
    (mRet (mCall Mi.m_law_yes (mCons (mCall Mi.m_lies_in (mCons (mVar 4) (mCons (mVar 5) mNil))) (mCons (mCall Mi.m_law_lies (mCons (mVar 4) (mCons (mVar 5) mNil))) mNil)))))))))))))))
def m_law : MF := run 7 b_law
def b_is_piece : MS := (mSeq (mIfS (mOrT (mTst (mBin dEq (mVar 0) (mC (.str "")))) (mTst (mBin dGt (mCB dLen (mCons (mVar 0) mNil)) (mC (.int 20))))) (mRet (mC (.bl false))) mNext)
    (mSeq (mIfS (mTst (mBin dGt (mMet "str" (gP dCount) (mVar 0) (mCons (mC (.str "*")) mNil)) (mC (.int 3)))) (mRet (mC (.bl false))) mNext)
    (mRet (mCB dAll (mCons (mComp (mI (mVar 0)) [1] (gNm 1) mYes (mOr (mBin dEq (mVar 1) (mC (.str "*"))) (mBin dIn (mVar 1) (mC (.str "abcdefghijklmnopqrstuvwxyz0123456789_-."))))) mNil)))))
def m_is_piece : MF := run 2 b_is_piece
def b_match_piece : MS := (mSeq (mAsg (mMet "str" (gP dSplit) (mVar 0) (mCons (mC (.str "*")) mNil)) (gNm 2))
    (mSeq (mIfS (mTst (mBin dEq (mCB dLen (mCons (mVar 2) mNil)) (mC (.int 1)))) (mRet (mBin dEq (mVar 0) (mVar 1))) mNext)
    (mSeq (mAsg (mBin dIx (mVar 2) (mC (.int 0))) (gNm 3))
    (mSeq (mAsg (mBin dIx (mVar 2) (mUn dNeg (mC (.int 1)))) (gNm 4))
    (mSeq (mIfS (mOrT (mNotT (mTst (mMet "str" (gP dStarts) (mVar 1) (mCons (mVar 3) mNil)))) (mNotT (mTst (mMet "str" (gP dEnds) (mVar 1) (mCons (mVar 4) mNil))))) (mRet (mC (.bl false))) mNext)
    (mSeq (mAsg (mCB dLen (mCons (mVar 3) mNil)) (gNm 5))
    (mSeq (mAsg (mBin dSub (mCB dLen (mCons (mVar 1) mNil)) (mCB dLen (mCons (mVar 4) mNil))) (gNm 6))
    (mSeq (mFor (mI (mSl (mVar 2) (mPart (mC (.int 1))) (mPart (mUn dNeg (mC (.int 1)))))) (gNm 7) (mSeq (mAsg (mMet "str" (gP dFind3) (mVar 1) (mCons (mVar 7) (mCons (mVar 5) mNil))) (gNm 8))
    (mSeq (mIfS (mTst (mBin dLt (mVar 8) (mC (.int 0)))) (mRet (mC (.bl false))) mNext)
    (mAsg (mBin dAdd (mVar 8) (mCB dLen (mCons (mVar 7) mNil))) (gNm 5)))))
    (mRet (mBin dLe (mVar 5) (mVar 6)))))))))))
def m_match_piece : MF := run 9 b_match_piece
def b_law_piece_fits : MS := (mSeq (mAsg (mBin dAdd (mLst (mCons (mC (.bl true)) mNil)) (mComp (mI (mVar 1)) [5] (gNm 5) mYes (mC (.bl false)))) (gNm 2))
    (mSeq (mFor (mI (mVar 0)) (gNm 3) (mSeq (mAsg (mCel (mCons (mAnd (mBin dIx (mVar 2) (mC (.int 0))) (mBin dEq (mVar 3) (mC (.str "*")))) mNil)) (gNm 4))
    (mSeq (mFor (mRng rng1 (mCons (mCB dLen (mCons (mVar 1) mNil)) mNil)) (gNm 5) (mIfS (mTst (mBin dEq (mVar 3) (mC (.str "*")))) (mExp (mMet "list" gAppend (mVar 4) (mCons (mOr (mBin dIx (mVar 2) (mBin dAdd (mVar 5) (mC (.int 1)))) (mBin dIx (mVar 4) (mVar 5))) mNil))) (mExp (mMet "list" gAppend (mVar 4) (mCons (mAnd (mBin dIx (mVar 2) (mVar 5)) (mBin dEq (mVar 3) (mBin dIx (mVar 1) (mVar 5)))) mNil)))))
    (mAsg (mVar 4) (gNm 2)))))
    (mRet (mBin dIx (mVar 2) (mCB dLen (mCons (mVar 1) mNil))))))
def m_law_piece_fits : MF := run 6 b_law_piece_fits
def b_law_is_piece : MS := (mSeq (mIfS (mTst (mBin dEq (mVar 0) (mC (.str "**")))) (mRet (mC (.bl true))) mNext)
    (mSeq (mIfS (mOrT (mTst (mBin dLt (mCB dLen (mCons (mVar 0) mNil)) (mC (.int 1)))) (mOrT (mTst (mBin dGt (mCB dLen (mCons (mVar 0) mNil)) (mC (.int 20)))) (mTst (mBin dGt (mMet "str" (gP dCount) (mVar 0) (mCons (mC (.str "*")) mNil)) (mC (.int 3)))))) (mRet (mC (.bl false))) mNext)
    (mSeq (mFor (mI (mVar 0)) (gNm 1) (mIfS (mTst (mBin dNotIn (mVar 1) (mC (.str "abcdefghijklmnopqrstuvwxyz0123456789_-.*")))) (mRet (mC (.bl false))) mNext))
    (mRet (mC (.bl true))))))
def m_law_is_piece : MF := run 2 b_law_is_piece
def b_is_pattern : MS := (mSeq (mAsg (mMet "str" (gP dSplit) (mVar 0) (mCons (mC (.str "/")) mNil)) (gNm 1))
    (mSeq (mIfS (mTst (mBin dGt (mCB dLen (mCons (mVar 1) mNil)) (mC (.int 5)))) (mRet (mC (.bl false))) mNext)
    (mRet (mCB dAll (mCons (mComp (mI (mVar 1)) [2] (gNm 2) mYes (mCall Mi.m_is_piece (mCons (mVar 2) mNil))) mNil)))))
def m_is_pattern : MF := run 3 b_is_pattern
def b_law_piece : MS := (mSeq (mAsg (mCall Mi.m_law_next (mCons (mVar 0) (mCons (mVar 1) (mCons (mC (.int 5)) mNil)))) (gNm 2))
    (mSeq (mIfS (mTst (mBin dEq (mVar 2) (mC (.int 0)))) (mRet (mC (.str "**"))) mNext)
    (mSeq (mAsg (mC (.str "")) (gNm 3))
    (mSeq (mAsg (mC (.int 0)) (gNm 4))
    (mSeq (mFor (mRng rng1 (mCons (mBin dAdd (mC (.int 1)) (mCall Mi.m_law_next (mCons (mVar 0) (mCons (mVar 1) (mCons (mBin dIx (mLst (mCons (mC (.int 6)) (mCons (mC (.int 6)) (mCons (mC (.int 14)) mNil)))) (mCall Mi.m_law_next (mCons (mVar 0) (mCons (mVar 1) (mCons (mC (.int 3)) mNil))))) mNil))))) mNil)) (gNm 5) (mSeq (mAsg (mBin dIx (mLst (mCons (mC (.str "a")) (mCons (mC (.str "b")) (mCons (mC (.str "a")) (mCons (mC (.str "*")) (mCons (mC (.str ".")) mNil)))))) (mCall Mi.m_law_next (mCons (mVar 0) (mCons (mVar 1) (mCons (mC (.int 5)) mNil))))) (gNm 6))
    (mSeq (mIfS (mTst (mBin dEq (mVar 6) (mC (.str "*")))) (mAsg (mBin dAdd (mVar 4) (mC (.int 1))) (gNm 4)) mNext)
    (mIfS (mOrT (mTst (mBin dNe (mVar 6) (mC (.str "*")))) (mTst (mBin dLt (mVar 4) (mC (.int 4))))) (mAsg (mBin dAdd (mVar 3) (mVar 6)) (gNm 3)) mNext))))
    (mRet (mVar 3)))))))
def m_law_piece : MF := run 7 b_law_piece
def b_law_from : MS := (mSeq (mAsg (mCall Mi.m_law_next (mCons (mVar 0) (mCons (mVar 1) (mCons (mC (.int 4)) mNil)))) (gNm 3))
    (mSeq (mIfS (mTst (mBin dEq (mVar 3) (mC (.int 0)))) (mRet (mC (.str "**"))) mNext)
    (mSeq (mIfS (mTst (mBin dEq (mVar 3) (mC (.int 1)))) (mRet (mVar 2)) mNext)
    (mSeq (mAsg (mCall Mi.m_law_next (mCons (mVar 0) (mCons (mVar 1) (mCons (mBin dAdd (mCB dLen (mCons (mVar 2) mNil)) (mC (.int 1))) mNil)))) (gNm 4))
    (mSeq (mAsg (mBin dAdd (mVar 4) (mCall Mi.m_law_next (mCons (mVar 0) (mCons (mVar 1) (mCons (mBin dAdd (mBin dSub (mCB dLen (mCons (mVar 2) mNil)) (mVar 4)) (mC (.int 1))) mNil))))) (gNm 5))
    (mSeq (mAsg (mBin dAdd (mBin dAdd (mSl (mVar 2) mNoP (mPart (mVar 4))) (mC (.str "*"))) (mSl (mVar 2) (mPart (mVar 5)) mNoP)) (gNm 6))
    (mRet (mSl (mVar 6) mNoP (mPart (mC (.int 20)))))))))))
def m_law_from : MF := run 7 b_law_from
def b_law_fits : MS := (mSeq (mAsg (mBin dAdd (mLst (mCons (mC (.bl true)) mNil)) (mComp (mI (mVar 1)) [5] (gNm 5) mYes (mC (.bl false)))) (gNm 2))
    (mSeq (mFor (mI (mVar 0)) (gNm 3) (mSeq (mAsg (mCel (mCons (mAnd (mBin dIx (mVar 2) (mC (.int 0))) (mBin dEq (mVar 3) (mC (.str "**")))) mNil)) (gNm 4))
    (mSeq (mFor (mRng rng1 (mCons (mCB dLen (mCons (mVar 1) mNil)) mNil)) (gNm 5) (mIfS (mTst (mBin dEq (mVar 3) (mC (.str "**")))) (mExp (mMet "list" gAppend (mVar 4) (mCons (mOr (mBin dIx (mVar 2) (mBin dAdd (mVar 5) (mC (.int 1)))) (mBin dIx (mVar 4) (mVar 5))) mNil))) (mExp (mMet "list" gAppend (mVar 4) (mCons (mAnd (mBin dIx (mVar 2) (mVar 5)) (mCall Mi.m_law_piece_fits (mCons (mVar 3) (mCons (mBin dIx (mVar 1) (mVar 5)) mNil)))) mNil)))))
    (mAsg (mVar 4) (gNm 2)))))
    (mRet (mBin dIx (mVar 2) (mCB dLen (mCons (mVar 1) mNil))))))
def m_law_fits : MF := run 6 b_law_fits
def b_match_segments (rc : MF) : MS := (mSeq (mIfS (mTst (mBin dEq (mVar 0) (mLst mNil))) (mRet (mBin dEq (mVar 1) (mLst mNil))) mNext)
    (mSeq (mAsg (mSl (mVar 0) (mPart (mC (.int 1))) mNoP) (gNm 2))
    (mSeq (mIfS (mTst (mBin dEq (mBin dIx (mVar 0) (mC (.int 0))) (mC (.str "**")))) (mRet (mCB dAny (mCons (mComp (mRng rng1 (mCons (mBin dAdd (mCB dLen (mCons (mVar 1) mNil)) (mC (.int 1))) mNil)) [3] (gNm 3) mYes (mCall rc (mCons (mVar 2) (mCons (mSl (mVar 1) (mPart (mVar 3)) mNoP) mNil)))) mNil))) mNext)
    (mSeq (mIfS (mOrT (mTst (mBin dEq (mVar 1) (mLst mNil))) (mNotT (mTst (mCall Mi.m_match_piece (mCons (mBin dIx (mVar 0) (mC (.int 0))) (mCons (mBin dIx (mVar 1) (mC (.int 0))) mNil)))))) (mRet (mC (.bl false))) mNext)
    (mRet (mCall rc (mCons (mVar 2) (mCons (mSl (mVar 1) (mPart (mC (.int 1))) mNoP) mNil))))))))
def mm_match_segments : Nat → MF
  | 0 => fun _ _ => .stuck
  | n + 1 => run 4 (b_match_segments (mm_match_segments n))
def m_match_segments : MF := mm_match_segments 8
def b_matches : MS := (mRet (mCall Mi.m_match_segments (mCons (mMet "str" (gP dSplit) (mVar 0) (mCons (mC (.str "/")) mNil)) (mCons (mMet "str" (gP dSplit) (mVar 1) (mCons (mC (.str "/")) mNil)) mNil))))
def m_matches : MF := run 2 b_matches
def b_law_2 : MS := (mSeq (mAsg (mCel (mCons (mC (.int 0)) (mCons (mC (.int 0)) (mCons (mC (.int 1)) mNil)))) (gNm 1))
    (mSeq (mIfS (mTst (mBin dEq (mCall Mi.m_law_next (mCons (mVar 1) (mCons (mVar 0) (mCons (mC (.int 2)) mNil)))) (mC (.int 0)))) (mAsg (mCall Mi.m_law_path (mCons (mVar 1) (mCons (mVar 0) mNil))) (gNm 2)) (mSeq (mAsg (mComp (mRng rng1 (mCons (mBin dAdd (mC (.int 1)) (mCall Mi.m_law_next (mCons (mVar 1) (mCons (mVar 0) (mCons (mC (.int 5)) mNil))))) mNil)) [10] (gNm 10) mYes (mMet "str" (gP dJoin) (mC (.str "")) (mCons (mComp (mRng rng1 (mCons (mBin dAdd (mC (.int 1)) (mCall Mi.m_law_next (mCons (mVar 1) (mCons (mVar 0) (mCons (mBin dIx (mLst (mCons (mC (.int 6)) (mCons (mC (.int 6)) (mCons (mC (.int 14)) mNil)))) (mCall Mi.m_law_next (mCons (mVar 1) (mCons (mVar 0) (mCons (mC (.int 3)) mNil))))) mNil))))) mNil)) [11] (gNm 11) mYes (mBin dIx (mC (.str "ab.")) (mCall Mi.m_law_next (mCons (mVar 1) (mCons (mVar 0) (mCons (mBin dAdd (mC (.int 2)) (mCB dInt (mCons (mBin dGt (mVar 11) (mC (.int 0))) mNil))) mNil)))))) mNil))) (gNm 3))
    (mAsg (mMet "str" (gP dJoin) (mC (.str "/")) (mCons (mVar 3) mNil)) (gNm 2))))
    (mSeq (mAsg (mMet "str" (gP dSplit) (mVar 2) (mCons (mC (.str "/")) mNil)) (gNm 4))
    (mSeq (mIfS (mTst (mBin dEq (mCall Mi.m_law_next (mCons (mVar 1) (mCons (mVar 0) (mCons (mC (.int 2)) mNil)))) (mC (.int 0)))) (mAsg (mCompC (mI (mVar 4)) [12] (gNm 12) mYes (mCall Mi.m_law_from (mCons (mVar 1) (mCons (mVar 0) (mCons (mVar 12) mNil))))) (gNm 5)) (mAsg (mCompC (mRng rng1 (mCons (mBin dAdd (mC (.int 1)) (mCall Mi.m_law_next (mCons (mVar 1) (mCons (mVar 0) (mCons (mC (.int 5)) mNil))))) mNil)) [10] (gNm 10) mYes (mCall Mi.m_law_piece (mCons (mVar 1) (mCons (mVar 0) mNil)))) (gNm 5)))
    (mSeq (mIfS (mTst (mBin dEq (mCall Mi.m_law_next (mCons (mVar 1) (mCons (mVar 0) (mCons (mC (.int 3)) mNil)))) (mC (.int 0)))) (mExp (mMet "list" gInsert (mVar 5) (mCons (mCall Mi.m_law_next (mCons (mVar 1) (mCons (mVar 0) (mCons (mBin dAdd (mCB dLen (mCons (mVar 5) mNil)) (mC (.int 1))) mNil)))) (mCons (mC (.str "**")) mNil)))) mNext)
    (mSeq (mAsg (mMet "str" (gP dJoin) (mC (.str "/")) (mCons (mVar 5) mNil)) (gNm 6))
    (mSeq (mIfS (mTst (mBin dEq (mCall Mi.m_law_next (mCons (mVar 1) (mCons (mVar 0) (mCons (mC (.int 6)) mNil)))) (mC (.int 0)))) (mSeq (mAsg (mCall Mi.m_law_next (mCons (mVar 1) (mCons (mVar 0) (mCons (mBin dAdd (mCB dLen (mCons (mVar 6) mNil)) (mC (.int 1))) mNil)))) (gNm 7))
    (mAsg (mBin dAdd (mBin dAdd (mSl (mVar 6) mNoP (mPart (mVar 7))) (mCall Mi.m_law_char (mCons (mCall Mi.m_law_next (mCons (mVar 1) (mCons (mVar 0) (mCons (mC (.int 95)) mNil)))) mNil))) (mSl (mVar 6) (mPart (mVar 7)) mNoP)) (gNm 6))) mNext)
    (mSeq (mIfS (mTst (mBin dEq (mCall Mi.m_law_next (mCons (mVar 1) (mCons (mVar 0) (mCons (mC (.int 12)) mNil)))) (mC (.int 0)))) (mSeq (mAsg (mLst (mCons (mC (.str "")) (mCons (mC (.str "a/b/a/b/a/b/a/b")) (mCons (mBin dMul (mC (.str "a")) (mC (.int 22))) (mCons (mC (.str "a*b*a*b*a*")) (mCons (mC (.str "*****")) (mCons (mBin dAdd (mBin dMul (mC (.str "**/")) (mC (.int 7))) (mC (.str "a"))) (mCons (mC (.str "A!b")) (mCons (mC (.str "/")) (mCons (mBin dMul (mC (.str "a")) (mC (.int 40))) (mCons (mC (.str "a//b")) (mCons (mC (.str "***")) mNil)))))))))))) (gNm 8))
    (mAsg (mBin dIx (mVar 8) (mCall Mi.m_law_next (mCons (mVar 1) (mCons (mVar 0) (mCons (mC (.int 11)) mNil))))) (gNm 6))) mNext)
    (mSeq (mAsg (mMet "str" (gP dSplit) (mVar 6) (mCons (mC (.str "/")) mNil)) (gNm 5))
    (mSeq (mAsg (mAnd (mBin dLt (mCB dLen (mCons (mVar 5) mNil)) (mC (.int 6))) (mBin dEq (mCB dLen (mCons (mComp (mI (mVar 5)) [13] (gNm 13) (mNotT (mTst (mCall Mi.m_law_is_piece (mCons (mVar 13) mNil)))) (mC (.int 1))) mNil)) (mC (.int 0)))) (gNm 9))
    (mSeq (mIfS (mNotT (mTst (mCall Mi.m_law_yes (mCons (mCall Mi.m_is_pattern (mCons (mVar 6) mNil)) (mCons (mVar 9) mNil))))) (mRet (mC (.bl false))) mNext)
    (mSeq (mIfS (mNotT (mTst (mVar 9))) (mRet (mC (.bl true))) mNext)
    (mRet (mCall Mi.m_law_yes (mCons (mCall Mi.m_matches (mCons (mVar 6) (mCons (mVar 2) mNil))) (mCons (mCall Mi.m_law_fits (mCons (mVar 5) (mCons (mVar 4) mNil))) mNil))))))))))))))))
def m_law_2 : MF := run 14 b_law_2
def b_word_at : MS := (mSeq (mAsg (mVar 1) (gNm 2))
    (mSeq (mWh 100000 (mAndT (mTst (mBin dLt (mVar 2) (mCB dLen (mCons (mVar 0) mNil)))) (mTst (mBin dIn (mBin dIx (mVar 0) (mVar 2)) (mC (.str "abcdefghijklmnopqrstuvwxyz0123456789_"))))) (mAug 2 dAddI (mC (.int 1))))
    (mSeq (mIfS (mTst (mBin dGt (mBin dSub (mVar 2) (mVar 1)) (mC (.int 20)))) (mRet (mTup (mCons (mC (.str "error")) (mCons (mC (.str "")) (mCons (mVar 1) mNil))))) mNext)
    (mRet (mTup (mCons (mC (.str "word")) (mCons (mSl (mVar 0) (mPart (mVar 1)) (mPart (mVar 2))) (mCons (mVar 2) mNil))))))))
def m_word_at : MF := run 3 b_word_at
def b_quoted_token : MS := (mSeq (mIfS (mTst (mBin dGt (mCB dLen (mCons (mVar 0) mNil)) (mC (.int 100)))) (mRet (mTup (mCons (mC (.str "error")) (mCons (mC (.str "")) (mCons (mVar 1) mNil))))) mNext)
    (mRet (mTup (mCons (mC (.str "text")) (mCons (mVar 0) (mCons (mVar 2) mNil))))))
def m_quoted_token : MF := run 3 b_quoted_token
def b_law_wordy : MS := (mRet (mBin dIn (mVar 0) (mC (.str "abcdefghijklmnopqrstuvwxyz0123456789_"))))
def m_law_wordy : MF := run 1 b_law_wordy
def b_law_signs : MS := (mRet (mLst (mCons (mC (.str "{")) (mCons (mC (.str "}")) (mCons (mC (.str "[")) (mCons (mC (.str "]")) (mCons (mC (.str "(")) (mCons (mC (.str ")")) (mCons (mC (.str ",")) (mCons (mC (.str ";")) (mCons (mC (.str "=")) (mCons (mC (.str "==")) (mCons (mC (.str "!=")) (mCons (mC (.str "+")) mNil))))))))))))))
def m_law_signs : MF := run 0 b_law_signs
def b_quoted_at : MS := (mSeq (mAsg (mCel mNil) (gNm 2))
    (mSeq (mAsg (mBin dAdd (mVar 1) (mC (.int 1))) (gNm 3))
    (mSeq (mWh 100000 (mAndT (mTst (mBin dLt (mVar 3) (mCB dLen (mCons (mVar 0) mNil)))) (mTst (mBin dNe (mBin dIx (mVar 0) (mVar 3)) (mC (.str "\n"))))) (mSeq (mIfS (mTst (mBin dEq (mBin dIx (mVar 0) (mVar 3)) (mC (.str "\"")))) (mRet (mCall Mi.m_quoted_token (mCons (mMet "str" (gP dJoin) (mC (.str "")) (mCons (mVar 2) mNil)) (mCons (mVar 1) (mCons (mBin dAdd (mVar 3) (mC (.int 1))) mNil))))) mNext)
    (mSeq (mIfS (mTst (mBin dEq (mBin dIx (mVar 0) (mVar 3)) (mC (.str "\\")))) (mSeq (mAug 3 dAddI (mC (.int 1)))
    (mSeq (mIfS (mOrT (mTst (mBin dEq (mVar 3) (mCB dLen (mCons (mVar 0) mNil)))) mStuckT) (mRet (mTup (mCons (mC (.str "error")) (mCons (mC (.str "")) (mCons (mVar 1) mNil))))) mNext)
    (mExp (mMet "list" gAppend (mVar 2) (mCons mStuck mNil))))) (mExp (mMet "list" gAppend (mVar 2) (mCons (mBin dIx (mVar 0) (mVar 3)) mNil))))
    (mAug 3 dAddI (mC (.int 1))))))
    (mRet (mTup (mCons (mC (.str "error")) (mCons (mC (.str "")) (mCons (mVar 1) mNil))))))))
def m_quoted_at : MF := run 4 b_quoted_at
def b_law_first : MS := (mSeq (mAsg (mCall Mi.m_law_signs mNil) (gNm 2))
    (mSeq (mIfS (mTst (mBin dIn (mSl (mVar 0) (mPart (mVar 1)) (mPart (mBin dAdd (mVar 1) (mC (.int 2))))) (mVar 2))) (mRet (mTup (mCons (mC (.str "sign")) (mCons (mSl (mVar 0) (mPart (mVar 1)) (mPart (mBin dAdd (mVar 1) (mC (.int 2))))) (mCons (mC (.int 2)) mNil))))) mNext)
    (mSeq (mIfS (mTst (mBin dIn (mBin dIx (mVar 0) (mVar 1)) (mVar 2))) (mRet (mTup (mCons (mC (.str "sign")) (mCons (mBin dIx (mVar 0) (mVar 1)) (mCons (mC (.int 1)) mNil))))) mNext)
    (mSeq (mIfS (mTst (mBin dEq (mBin dIx (mVar 0) (mVar 1)) (mC (.str "\"")))) (mSeq (mAsg (mMet "str" (gP dFind3) (mVar 0) (mCons (mC (.str "\"")) (mCons (mBin dAdd (mVar 1) (mC (.int 1))) mNil))) (gNm 3))
    (mSeq (mIfS (mOrT (mTst (mBin dLt (mVar 3) (mC (.int 0)))) (mOrT (mTst (mBin dIn (mC (.str "\n")) (mSl (mVar 0) (mPart (mVar 1)) (mPart (mVar 3))))) (mTst (mBin dGt (mBin dSub (mVar 3) (mVar 1)) (mC (.int 101)))))) (mRet (mTup (mCons (mC (.str "error")) (mCons (mC (.str "")) (mCons (mC (.int 1)) mNil))))) mNext)
    (mRet (mTup (mCons (mC (.str "text")) (mCons (mSl (mVar 0) (mPart (mBin dAdd (mVar 1) (mC (.int 1)))) (mPart (mVar 3))) (mCons (mBin dSub (mBin dAdd (mVar 3) (mC (.int 1))) (mVar 1)) mNil))))))) mNext)
    (mSeq (mAsg (mC (.int 0)) (gNm 4))
    (mSeq (mWh 100000 (mAndT (mTst (mBin dLt (mBin dAdd (mVar 1) (mVar 4)) (mCB dLen (mCons (mVar 0) mNil)))) (mTst (mCall Mi.m_law_wordy (mCons (mBin dIx (mVar 0) (mBin dAdd (mVar 1) (mVar 4))) mNil)))) (mAsg (mBin dAdd (mVar 4) (mC (.int 1))) (gNm 4)))
    (mSeq (mIfS (mOrT (mTst (mBin dEq (mVar 4) (mC (.int 0)))) (mOrT (mTst (mBin dGt (mVar 4) (mC (.int 20)))) (mTst (mBin dNotIn (mBin dIx (mVar 0) (mVar 1)) (mC (.str "abcdefghijklmnopqrstuvwxyz")))))) (mRet (mTup (mCons (mC (.str "error")) (mCons (mC (.str "")) (mCons (mC (.int 1)) mNil))))) mNext)
    (mRet (mTup (mCons (mC (.str "word")) (mCons (mSl (mVar 0) (mPart (mVar 1)) (mPart (mBin dAdd (mVar 1) (mVar 4)))) (mCons (mVar 4) mNil))))))))))))
def m_law_first : MF := run 5 b_law_first
def b_law_quoted : MS := (mSeq (mAsg (mBin dIx (mLst (mCons (mC (.int 0)) (mCons (mC (.int 3)) (mCons (mC (.int 24)) (mCons (mC (.int 73)) (mCons (mC (.int 99)) (mCons (mC (.int 100)) (mCons (mC (.int 101)) (mCons (mC (.int 102)) mNil))))))))) (mCall Mi.m_law_next (mCons (mVar 0) (mCons (mVar 1) (mCons (mC (.int 8)) mNil))))) (gNm 2))
    (mSeq (mAsg (mBin dIx (mLst (mCons (mC (.str "a b")) (mCons (mC (.str "=+;")) (mCons (mC (.str "[x]")) (mCons (mC (.str "1_2 ")) (mCons (mC (.str "'!#")) mNil)))))) (mCall Mi.m_law_next (mCons (mVar 0) (mCons (mVar 1) (mCons (mC (.int 5)) mNil))))) (gNm 3))
    (mRet (mBin dAdd (mBin dAdd (mC (.str "\"")) (mSl (mBin dMul (mVar 3) (mC (.int 34))) mNoP (mPart (mVar 2)))) (mBin dIx (mLst (mCons (mC (.str "\"")) (mCons (mC (.str "\"")) (mCons (mC (.str "\"")) (mCons (mC (.str "")) (mCons (mC (.str "\n\"")) mNil)))))) (mCall Mi.m_law_next (mCons (mVar 0) (mCons (mVar 1) (mCons (mC (.int 5)) mNil)))))))))
def m_law_quoted : MF := run 4 b_law_quoted
def b_token_at : MS := (mSeq (mIfS (mTst (mBin dIn (mBin dIx (mVar 0) (mVar 1)) (mC (.str "abcdefghijklmnopqrstuvwxyz")))) (mRet (mCall Mi.m_word_at (mCons (mVar 0) (mCons (mVar 1) mNil)))) mNext)
    (mSeq (mIfS (mTst (mBin dEq (mBin dIx (mVar 0) (mVar 1)) (mC (.str "\"")))) (mRet (mCall Mi.m_quoted_at (mCons (mVar 0) (mCons (mVar 1) mNil)))) mNext)
    (mSeq (mIfS (mTst (mBin dIn (mSl (mVar 0) (mPart (mVar 1)) (mPart (mBin dAdd (mVar 1) (mC (.int 2))))) (mC (.tup ((["==", "!="] : List Str).map .str))))) (mRet (mTup (mCons (mC (.str "sign")) (mCons (mSl (mVar 0) (mPart (mVar 1)) (mPart (mBin dAdd (mVar 1) (mC (.int 2))))) (mCons (mBin dAdd (mVar 1) (mC (.int 2))) mNil))))) mNext)
    (mSeq (mIfS (mTst (mBin dIn (mBin dIx (mVar 0) (mVar 1)) (mC (.str "{}[](),;=+")))) (mRet (mTup (mCons (mC (.str "sign")) (mCons (mBin dIx (mVar 0) (mVar 1)) (mCons (mBin dAdd (mVar 1) (mC (.int 1))) mNil))))) mNext)
    (mRet (mTup (mCons (mC (.str "error")) (mCons (mC (.str "")) (mCons (mVar 1) mNil)))))))))
def m_token_at : MF := run 2 b_token_at
def b_law_due : MS := (mSeq (mAsg (mCel mNil) (gNm 1))
    (mSeq (mAsg (mC (.int 0)) (gNm 2))
    (mSeq (mAsg (mC (.int 1)) (gNm 3))
    (mSeq (mAsg (mC (.int 1)) (gNm 4))
    (mSeq (mFor (mRng rng1 (mCons (mCB dLen (mCons (mVar 0) mNil)) mNil)) (gNm 5) (mSeq (mIfS (mOrT (mTst (mBin dGe (mVar 2) (mCB dLen (mCons (mVar 0) mNil)))) (mAndT (mTst (mBin dGt (mCB dLen (mCons (mVar 1) mNil)) (mC (.int 0)))) (mTst (mBin dEq (mBin dIx (mBin dIx (mVar 1) (mUn dNeg (mC (.int 1)))) (mC (.int 0))) (mC (.str "error")))))) mBrk mNext)
    (mIfS (mTst (mBin dIn (mBin dIx (mVar 0) (mVar 2)) (mC (.str " \n")))) (mSeq (mAsg (mBin dAdd (mVar 4) (mC (.int 1))) (gNm 4))
    (mSeq (mIfS (mTst (mBin dEq (mBin dIx (mVar 0) (mVar 2)) (mC (.str "\n")))) (mSeq (mAsg (mBin dAdd (mVar 3) (mC (.int 1))) (gNm 3))
    (mAsg (mC (.int 1)) (gNm 4))) mNext)
    (mAsg (mBin dAdd (mVar 2) (mC (.int 1))) (gNm 2)))) (mSeq (mAsg (mCall Mi.m_law_first (mCons (mVar 0) (mCons (mVar 2) mNil))) (gTp 3 (gsCons (gNm 6) (gsCons (gNm 7) (gsCons (gNm 8) gsNil)))))
    (mSeq (mExp (mMet "list" gAppend (mVar 1) (mCons (mTup (mCons (mVar 6) (mCons (mVar 7) (mCons (mVar 3) (mCons (mVar 4) mNil))))) mNil)))
    (mSeq (mAsg (mBin dAdd (mVar 2) (mVar 8)) (gNm 2))
    (mAsg (mBin dAdd (mVar 4) (mVar 8)) (gNm 4))))))))
    (mRet (mCB dTupleOf (mCons (mVar 1) mNil))))))))
def m_law_due : MF := run 9 b_law_due
def b_tokens : MS := (mSeq (mAsg (mCel mNil) (gNm 1))
    (mSeq (mAsg (mC (.int 0)) (gNm 2))
    (mSeq (mAsg (mC (.int 1)) (gNm 3))
    (mSeq (mAsg (mC (.int 0)) (gNm 4))
    (mSeq (mWh 100000 (mTst (mBin dLt (mVar 2) (mCB dLen (mCons (mVar 0) mNil)))) (mIfS (mTst (mBin dEq (mBin dIx (mVar 0) (mVar 2)) (mC (.str "\n")))) (mSeq (mAug 2 dAddI (mC (.int 1)))
    (mSeq (mAug 3 dAddI (mC (.int 1)))
    (mAsg (mVar 2) (gNm 4)))) (mIfS (mTst (mBin dEq (mBin dIx (mVar 0) (mVar 2)) (mC (.str " ")))) (mAug 2 dAddI (mC (.int 1))) (mSeq (mAsg (mCall Mi.m_token_at (mCons (mVar 0) (mCons (mVar 2) mNil))) (gTp 3 (gsCons (gNm 5) (gsCons (gNm 6) (gsCons (gNm 7) gsNil)))))
    (mSeq (mExp (mMet "list" gAppend (mVar 1) (mCons (mTup (mCons (mVar 5) (mCons (mVar 6) (mCons (mVar 3) (mCons (mBin dAdd (mBin dSub (mVar 2) (mVar 4)) (mC (.int 1))) mNil))))) mNil)))
    (mSeq (mIfS (mTst (mBin dEq (mVar 5) (mC (.str "error")))) (mRet (mCB dTupleOf (mCons (mVar 1) mNil))) mNext)
    (mAsg (mVar 7) (gNm 2))))))))
    (mRet (mCB dTupleOf (mCons (mVar 1) mNil))))))))
def m_tokens : MF := run 8 b_tokens
def b_law_same (rc : MF) : MS := (mSeq (mIfS (mTst (mBin dIs (mVar 1) (mC .non))) (mRet (mBin dIs (mVar 0) (mC .non))) mNext)
    (mSeq (mIfS (mTst (mCB dIsi (mCons (mVar 1) (mCons (mC (.ty "tuple")) mNil)))) (mSeq (mIfS (mOrT (mNotT (mTst (mCB dIsi (mCons (mVar 0) (mCons (mC (.ty "tuple")) mNil))))) (mTst (mBin dNe (mCB dLen (mCons (mVar 0) mNil)) (mCB dLen (mCons (mVar 1) mNil))))) (mRet (mC (.bl false))) mNext)
    (mSeq (mFor (mRng rng1 (mCons (mCB dLen (mCons (mVar 1) mNil)) mNil)) (gNm 2) (mIfS (mNotT (mTst (mCall rc (mCons (mBin dIx (mVar 0) (mVar 2)) (mCons (mBin dIx (mVar 1) (mVar 2)) mNil))))) (mRet (mC (.bl false))) mNext))
    (mRet (mC (.bl true))))) mNext)
    (mSeq (mIfS (mTst (mCB dIsi (mCons (mVar 1) (mCons (mC (.ty "bool")) mNil)))) (mRet (mAnd (mCB dIsi (mCons (mVar 0) (mCons (mC (.ty "bool")) mNil))) (mBin dEq (mVar 0) (mVar 1)))) mNext)
    (mSeq (mIfS (mTst (mCB dIsi (mCons (mVar 1) (mCons (mC (.ty "int")) mNil)))) (mRet (mAnd (mCB dIsi (mCons (mVar 0) (mCons (mC (.ty "int")) mNil))) (mAnd (mNot (mCB dIsi (mCons (mVar 0) (mCons (mC (.ty "bool")) mNil)))) (mBin dEq (mVar 0) (mVar 1))))) mNext)
    (mRet (mAnd (mCB dIsi (mCons (mVar 0) (mCons (mC (.ty "str")) mNil))) (mBin dEq (mVar 0) (mVar 1))))))))
def mm_law_same : Nat → MF
  | 0 => fun _ _ => .stuck
  | n + 1 => run 3 (b_law_same (mm_law_same n))
def m_law_same : MF := mm_law_same 12
def b_law_3 : MS := (mSeq (mAsg (mCel (mCons (mC (.int 0)) (mCons (mC (.int 0)) (mCons (mC (.int 1)) mNil)))) (gNm 1))
    (mSeq (mFor (mRng rng1 (mCons (mC (.int 3)) mNil)) (gNm 2) (mSeq (mAsg (mC (.str "")) (gNm 3))
    (mSeq (mFor (mRng rng1 (mCons (mCall Mi.m_law_next (mCons (mVar 1) (mCons (mVar 0) (mCons (mC (.int 25)) mNil)))) mNil)) (gNm 4) (mSeq (mAsg (mCall Mi.m_law_next (mCons (mVar 1) (mCons (mVar 0) (mCons (mC (.int 10)) mNil)))) (gNm 5))
    (mIfS (mTst (mBin dLt (mVar 5) (mC (.int 4)))) (mAsg (mBin dAdd (mVar 3) (mBin dIx (mLst (mCons (mC (.str "=")) (mCons (mC (.str "==")) (mCons (mC (.str "!=")) (mCons (mC (.str "=")) mNil))))) (mVar 5))) (gNm 3)) (mIfS (mTst (mBin dLt (mVar 5) (mC (.int 7)))) (mAsg (mBin dAdd (mVar 3) (mBin dIx (mCall Mi.m_law_signs mNil) (mCall Mi.m_law_next (mCons (mVar 1) (mCons (mVar 0) (mCons (mC (.int 12)) mNil)))))) (gNm 3)) (mIfS (mTst (mBin dEq (mVar 5) (mC (.int 7)))) (mSeq (mAsg (mBin dIx (mC (.str "abcdefghijklmnopqrstuvwxyz")) (mCall Mi.m_law_next (mCons (mVar 1) (mCons (mVar 0) (mCons (mC (.int 26)) mNil))))) (gNm 6))
    (mSeq (mAsg (mBin dAdd (mVar 6) (mBin dIx (mLst (mCons (mC (.str "")) (mCons (mC (.str "_")) (mCons (mCB dStr (mCons (mCall Mi.m_law_next (mCons (mVar 1) (mCons (mVar 0) (mCons (mC (.int 1000)) mNil)))) mNil)) (mCons (mBin dMul (mVar 6) (mC (.int 19))) mNil))))) (mCall Mi.m_law_next (mCons (mVar 1) (mCons (mVar 0) (mCons (mC (.int 4)) mNil)))))) (gNm 7))
    (mAsg (mBin dAdd (mVar 3) (mBin dIx (mLst (mCons (mC (.str "a")) (mCons (mC (.str "if")) (mCons (mVar 7) (mCons (mVar 7) (mCons (mC (.str "\"b c\"")) (mCons (mC (.str "\"\"")) (mCons (mC (.str "\"=\"")) (mCons (mC (.str "\"")) mNil))))))))) (mCall Mi.m_law_next (mCons (mVar 1) (mCons (mVar 0) (mCons (mC (.int 8)) mNil)))))) (gNm 3)))) (mIfS (mTst (mBin dEq (mVar 5) (mC (.int 8)))) (mAsg (mBin dAdd (mVar 3) (mBin dIx (mLst (mCons (mC (.str " ")) (mCons (mC (.str "\n")) (mCons (mC (.str "")) (mCons (mCall Mi.m_law_quoted (mCons (mVar 1) (mCons (mVar 0) mNil))) mNil))))) (mCall Mi.m_law_next (mCons (mVar 1) (mCons (mVar 0) (mCons (mC (.int 4)) mNil)))))) (gNm 3)) (mIfS (mTst (mBin dEq (mCall Mi.m_law_next (mCons (mVar 1) (mCons (mVar 0) (mCons (mC (.int 2)) mNil)))) (mC (.int 0)))) (mSeq (mAsg (mCall Mi.m_law_char (mCons (mCall Mi.m_law_next (mCons (mVar 1) (mCons (mVar 0) (mCons (mC (.int 95)) mNil)))) mNil)) (gNm 6))
    (mAsg (mBin dAdd (mVar 3) (mBin dIx (mLst (mCons (mVar 6) (mCons (mC (.str "")) mNil))) (mCB dInt (mCons (mBin dEq (mVar 6) (mC (.str "\\"))) mNil)))) (gNm 3))) (mAsg (mBin dAdd (mVar 3) (mBin dIx (mC (.str "!A1_=+#$&'*-./:<>?@^`|~Z09=")) (mCall Mi.m_law_next (mCons (mVar 1) (mCons (mVar 0) (mCons (mC (.int 27)) mNil)))))) (gNm 3)))))))))
    (mIfS (mNotT (mTst (mCall Mi.m_law_same (mCons (mCall Mi.m_tokens (mCons (mVar 3) mNil)) (mCons (mCall Mi.m_law_due (mCons (mVar 3) mNil)) mNil))))) (mRet (mC (.bl false))) mNext))))
    (mRet (mC (.bl true)))))
def m_law_3 : MF := run 8 b_law_3
def b_law_reserved : MS := (mSeq (mAsg (mLst (mCons (mC (.str "set")) (mCons (mC (.str "make")) (mCons (mC (.str "by")) (mCons (mC (.str "with")) (mCons (mC (.str "from")) (mCons (mC (.str "needs")) (mCons (mC (.str "if")) (mCons (mC (.str "else")) (mCons (mC (.str "each")) (mCons (mC (.str "in")) (mCons (mC (.str "shape")) (mCons (mC (.str "use")) (mCons (mC (.str "not")) mNil)))))))))))))) (gNm 0))
    (mRet (mBin dAdd (mVar 0) (mLst (mCons (mC (.str "files")) (mCons (mC (.str "flag")) (mCons (mC (.str "when")) mNil)))))))
def m_law_reserved : MF := run 1 b_law_reserved
def b_law_quote : MS := (mSeq (mAsg (mC (.str "")) (gNm 1))
    (mSeq (mFor (mI (mVar 0)) (gNm 2) (mIfS (mTst (mBin dEq (mVar 2) (mC (.str "\n")))) (mAsg (mBin dAdd (mVar 1) (mC (.str "\\n"))) (gNm 1)) (mIfS (mOrT (mTst (mBin dEq (mVar 2) (mC (.str "\"")))) (mTst (mBin dEq (mVar 2) (mC (.str "\\"))))) (mAsg (mBin dAdd (mBin dAdd (mVar 1) (mC (.str "\\"))) (mVar 2)) (gNm 1)) (mAsg (mBin dAdd (mVar 1) (mVar 2)) (gNm 1)))))
    (mRet (mBin dAdd (mBin dAdd (mC (.str "\"")) (mVar 1)) (mC (.str "\""))))))
def m_law_quote : MF := run 3 b_law_quote
def b_quoted_at_2 : MS := (mSeq (mAsg (mCel mNil) (gNm 2))
    (mSeq (mAsg (mBin dAdd (mVar 1) (mC (.int 1))) (gNm 3))
    (mSeq (mWh 100000 (mAndT (mTst (mBin dLt (mVar 3) (mCB dLen (mCons (mVar 0) mNil)))) (mTst (mBin dNe (mBin dIx (mVar 0) (mVar 3)) (mC (.str "\n"))))) (mSeq (mIfS (mTst (mBin dEq (mBin dIx (mVar 0) (mVar 3)) (mC (.str "\"")))) (mRet (mCall Mi.m_quoted_token (mCons (mMet "str" (gP dJoin) (mC (.str "")) (mCons (mVar 2) mNil)) (mCons (mVar 1) (mCons (mBin dAdd (mVar 3) (mC (.int 1))) mNil))))) mNext)
    (mSeq (mIfS (mTst (mBin dEq (mBin dIx (mVar 0) (mVar 3)) (mC (.str "\\")))) (mSeq (mAug 3 dAddI (mC (.int 1)))
    (mSeq (mIfS (mOrT (mTst (mBin dEq (mVar 3) (mCB dLen (mCons (mVar 0) mNil)))) (mTst (mUn (dKNot ([("\"", "\""), ("\\", "\\"), ("n", "\n")] : List (Str × Str))) (mBin dIx (mVar 0) (mVar 3))))) (mRet (mTup (mCons (mC (.str "error")) (mCons (mC (.str "")) (mCons (mVar 1) mNil))))) mNext)
    (mExp (mMet "list" gAppend (mVar 2) (mCons (mUn (dKIx ([("\"", "\""), ("\\", "\\"), ("n", "\n")] : List (Str × Str))) (mBin dIx (mVar 0) (mVar 3))) mNil))))) (mExp (mMet "list" gAppend (mVar 2) (mCons (mBin dIx (mVar 0) (mVar 3)) mNil))))
    (mAug 3 dAddI (mC (.int 1))))))
    (mRet (mTup (mCons (mC (.str "error")) (mCons (mC (.str "")) (mCons (mVar 1) mNil))))))))
def m_quoted_at_2 : MF := run 4 b_quoted_at_2
def b_law_name : MS := (mSeq (mAsg (mC (.str "abcdefghijklmnopqrstuvwxyz")) (gNm 2))
    (mSeq (mAsg (mCall Mi.m_law_next (mCons (mVar 0) (mCons (mVar 1) (mCons (mC (.int 8)) mNil)))) (gNm 3))
    (mSeq (mIfS (mTst (mBin dLt (mVar 3) (mC (.int 5)))) (mRet (mBin dIx (mLst (mCons (mC (.str "x")) (mCons (mC (.str "y")) (mCons (mC (.str "xs")) (mCons (mC (.str "by_2")) (mCons (mC (.str "sets")) mNil)))))) (mVar 3))) mNext)
    (mSeq (mAsg (mBin dIx (mVar 2) (mCall Mi.m_law_next (mCons (mVar 0) (mCons (mVar 1) (mCons (mC (.int 26)) mNil))))) (gNm 4))
    (mSeq (mAsg (mCall Mi.m_law_next (mCons (mVar 0) (mCons (mVar 1) (mCons (mC (.int 4)) mNil)))) (gNm 5))
    (mSeq (mIfS (mTst (mBin dEq (mVar 3) (mC (.int 7)))) (mAsg (mCall Mi.m_law_next (mCons (mVar 0) (mCons (mVar 1) (mCons (mC (.int 20)) mNil)))) (gNm 5)) mNext)
    (mSeq (mFor (mRng rng1 (mCons (mVar 5) mNil)) (gNm 6) (mAsg (mBin dAdd (mVar 4) (mBin dIx (mBin dAdd (mVar 2) (mC (.str "0123456789_"))) (mCall Mi.m_law_next (mCons (mVar 0) (mCons (mVar 1) (mCons (mC (.int 37)) mNil)))))) (gNm 4)))
    (mSeq (mIfS (mTst (mBin dIn (mVar 4) (mCall Mi.m_law_reserved mNil))) (mRet (mBin dAdd (mVar 4) (mC (.str "_")))) mNext)
    (mRet (mVar 4))))))))))
def m_law_name : MF := run 7 b_law_name
def b_law_gap : MS := (mSeq (mAsg (mBin dIx (mLst (mCons (mC (.str "")) (mCons (mC (.str " ")) (mCons (mC (.str " ")) (mCons (mC (.str "\n")) (mCons (mC (.str "  ")) (mCons (mC (.str "\n   ")) mNil))))))) (mCall Mi.m_law_next (mCons (mVar 0) (mCons (mVar 1) (mCons (mC (.int 6)) mNil))))) (gNm 4))
    (mSeq (mIfS (mAndT (mTst (mBin dEq (mVar 4) (mC (.str "")))) (mAndT (mTst (mBin dNe (mVar 2) (mC (.str "")))) (mAndT (mTst (mCall Mi.m_law_wordy (mCons (mBin dIx (mVar 2) (mUn dNeg (mC (.int 1)))) mNil))) (mTst (mCall Mi.m_law_wordy (mCons (mBin dIx (mVar 3) (mC (.int 0))) mNil)))))) (mRet (mC (.str " "))) mNext)
    (mSeq (mIfS (mAndT (mTst (mBin dEq (mVar 4) (mC (.str "")))) (mAndT (mTst (mBin dNe (mVar 2) (mC (.str "")))) (mAndT (mTst (mBin dIn (mBin dIx (mVar 2) (mUn dNeg (mC (.int 1)))) (mC (.str "=!")))) (mTst (mBin dEq (mBin dIx (mVar 3) (mC (.int 0))) (mC (.str "="))))))) (mRet (mC (.str " "))) mNext)
    (mRet (mVar 4)))))
def m_law_gap : MF := run 5 b_law_gap
def b_law_odd : MS := (mSeq (mAsg (mCall Mi.m_law_next (mCons (mVar 0) (mCons (mVar 1) (mCons (mC (.int 8)) mNil)))) (gNm 2))
    (mSeq (mIfS (mTst (mBin dEq (mVar 2) (mC (.int 0)))) (mRet (mSl (mC (.str "abcdefghij_klmnopqrstu")) mNoP (mPart (mBin dAdd (mC (.int 21)) (mCall Mi.m_law_next (mCons (mVar 0) (mCons (mVar 1) (mCons (mC (.int 2)) mNil)))))))) mNext)
    (mSeq (mIfS (mTst (mBin dEq (mVar 2) (mC (.int 1)))) (mRet (mBin dAdd (mBin dAdd (mBin dAdd (mC (.str "\"")) (mBin dIx (mLst (mCons (mC (.str "y")) (mCons (mC (.str "\\n")) (mCons (mC (.str "\\\\")) mNil)))) (mCall Mi.m_law_next (mCons (mVar 0) (mCons (mVar 1) (mCons (mC (.int 3)) mNil)))))) (mBin dMul (mC (.str "y")) (mBin dAdd (mC (.int 100)) (mCall Mi.m_law_next (mCons (mVar 0) (mCons (mVar 1) (mCons (mC (.int 2)) mNil))))))) (mC (.str "\"")))) mNext)
    (mSeq (mIfS (mTst (mBin dEq (mVar 2) (mC (.int 2)))) (mRet (mC (.str "\"ab"))) mNext)
    (mSeq (mIfS (mTst (mBin dEq (mVar 2) (mC (.int 3)))) (mRet (mBin dAdd (mBin dAdd (mC (.str "\"a\\")) (mBin dIx (mC (.str "trx'0aN")) (mCall Mi.m_law_next (mCons (mVar 0) (mCons (mVar 1) (mCons (mC (.int 7)) mNil)))))) (mC (.str "\"")))) mNext)
    (mSeq (mIfS (mTst (mBin dEq (mVar 2) (mC (.int 4)))) (mRet (mC (.str "\"a\nb\""))) mNext)
    (mSeq (mIfS (mTst (mBin dEq (mVar 2) (mC (.int 5)))) (mRet (mC (.str "\"a\\"))) mNext)
    (mSeq (mAsg (mC (.str "ABCDEFGHIJKLMNOPQRSTUVWXYZ0123456789!#$&'*-./:<>?@\\^_`|~")) (gNm 3))
    (mRet (mBin dIx (mVar 3) (mCall Mi.m_law_next (mCons (mVar 0) (mCons (mVar 1) (mCons (mCB dLen (mCons (mVar 3) mNil)) mNil))))))))))))))
def m_law_odd : MF := run 4 b_law_odd
def b_token_at_2 : MS := (mSeq (mIfS (mTst (mBin dIn (mBin dIx (mVar 0) (mVar 1)) (mC (.str "abcdefghijklmnopqrstuvwxyz")))) (mRet (mCall Mi.m_word_at (mCons (mVar 0) (mCons (mVar 1) mNil)))) mNext)
    (mSeq (mIfS (mTst (mBin dEq (mBin dIx (mVar 0) (mVar 1)) (mC (.str "\"")))) (mRet (mCall Mi.m_quoted_at_2 (mCons (mVar 0) (mCons (mVar 1) mNil)))) mNext)
    (mSeq (mIfS (mTst (mBin dIn (mSl (mVar 0) (mPart (mVar 1)) (mPart (mBin dAdd (mVar 1) (mC (.int 2))))) (mC (.tup ((["==", "!="] : List Str).map .str))))) (mRet (mTup (mCons (mC (.str "sign")) (mCons (mSl (mVar 0) (mPart (mVar 1)) (mPart (mBin dAdd (mVar 1) (mC (.int 2))))) (mCons (mBin dAdd (mVar 1) (mC (.int 2))) mNil))))) mNext)
    (mSeq (mIfS (mTst (mBin dIn (mBin dIx (mVar 0) (mVar 1)) (mC (.str "{}[](),;=+")))) (mRet (mTup (mCons (mC (.str "sign")) (mCons (mBin dIx (mVar 0) (mVar 1)) (mCons (mBin dAdd (mVar 1) (mC (.int 1))) mNil))))) mNext)
    (mRet (mTup (mCons (mC (.str "error")) (mCons (mC (.str "")) (mCons (mVar 1) mNil)))))))))
def m_token_at_2 : MF := run 2 b_token_at_2
def b_law_value : MS := (mSeq (mAsg (mCall Mi.m_law_words (mCons (mVar 0) (mCons (mVar 1) mNil))) (gNm 2))
    (mSeq (mIfS (mTst (mBin dEq (mCall Mi.m_law_next (mCons (mVar 0) (mCons (mVar 1) (mCons (mC (.int 30)) mNil)))) (mC (.int 0)))) (mAsg (mBin dAdd (mVar 2) (mBin dMul (mC (.str "x")) (mBin dSub (mC (.int 100)) (mCB dLen (mCons (mVar 2) mNil))))) (gNm 2)) mNext)
    (mSeq (mIfS (mTst (mBin dEq (mCall Mi.m_law_next (mCons (mVar 0) (mCons (mVar 1) (mCons (mC (.int 12)) mNil)))) (mC (.int 0)))) (mAsg (mBin dMul (mVar 2) (mBin dAdd (mC (.int 2)) (mCall Mi.m_law_next (mCons (mVar 0) (mCons (mVar 1) (mCons (mC (.int 8)) mNil)))))) (gNm 2)) mNext)
    (mRet (mSl (mVar 2) mNoP (mPart (mC (.int 100))))))))
def m_law_value : MF := run 3 b_law_value
def b_law_lay : MS := (mSeq (mAsg (mC (.str "")) (gNm 4))
    (mSeq (mAsg (mC (.int 1)) (gNm 5))
    (mSeq (mAsg (mC (.int 1)) (gNm 6))
    (mSeq (mAsg (mC (.str "")) (gNm 7))
    (mSeq (mFor (mI (mVar 2)) (gNm 8) (mSeq (mFor (mI (mCall Mi.m_law_gap (mCons (mVar 0) (mCons (mVar 1) (mCons (mVar 7) (mCons (mVar 8) mNil)))))) (gNm 9) (mSeq (mAsg (mBin dAdd (mVar 4) (mVar 9)) (gNm 4))
    (mSeq (mAsg (mBin dAdd (mVar 6) (mC (.int 1))) (gNm 6))
    (mIfS (mTst (mBin dEq (mVar 9) (mC (.str "\n")))) (mSeq (mAsg (mBin dAdd (mVar 5) (mC (.int 1))) (gNm 5))
    (mAsg (mC (.int 1)) (gNm 6))) mNext))))
    (mSeq (mExp (mMet "list" gAppend (mVar 3) (mCons (mTup (mCons (mVar 5) (mCons (mVar 6) mNil))) mNil)))
    (mSeq (mAsg (mBin dAdd (mVar 4) (mVar 8)) (gNm 4))
    (mSeq (mAsg (mBin dAdd (mVar 6) (mCB dLen (mCons (mVar 8) mNil))) (gNm 6))
    (mAsg (mVar 8) (gNm 7)))))))
    (mRet (mVar 4)))))))
def m_law_lay : MF := run 10 b_law_lay
def b_tokens_2 : MS := (mSeq (mAsg (mCel mNil) (gNm 1))
    (mSeq (mAsg (mC (.int 0)) (gNm 2))
    (mSeq (mAsg (mC (.int 1)) (gNm 3))
    (mSeq (mAsg (mC (.int 0)) (gNm 4))
    (mSeq (mWh 100000 (mTst (mBin dLt (mVar 2) (mCB dLen (mCons (mVar 0) mNil)))) (mIfS (mTst (mBin dEq (mBin dIx (mVar 0) (mVar 2)) (mC (.str "\n")))) (mSeq (mAug 2 dAddI (mC (.int 1)))
    (mSeq (mAug 3 dAddI (mC (.int 1)))
    (mAsg (mVar 2) (gNm 4)))) (mIfS (mTst (mBin dEq (mBin dIx (mVar 0) (mVar 2)) (mC (.str " ")))) (mAug 2 dAddI (mC (.int 1))) (mSeq (mAsg (mCall Mi.m_token_at_2 (mCons (mVar 0) (mCons (mVar 2) mNil))) (gTp 3 (gsCons (gNm 5) (gsCons (gNm 6) (gsCons (gNm 7) gsNil)))))
    (mSeq (mExp (mMet "list" gAppend (mVar 1) (mCons (mTup (mCons (mVar 5) (mCons (mVar 6) (mCons (mVar 3) (mCons (mBin dAdd (mBin dSub (mVar 2) (mVar 4)) (mC (.int 1))) mNil))))) mNil)))
    (mSeq (mIfS (mTst (mBin dEq (mVar 5) (mC (.str "error")))) (mRet (mCB dTupleOf (mCons (mVar 1) mNil))) mNext)
    (mAsg (mVar 7) (gNm 2))))))))
    (mRet (mCB dTupleOf (mCons (mVar 1) mNil))))))))
def m_tokens_2 : MF := run 8 b_tokens_2
def b_law_4 : MS := (mSeq (mAsg (mCel (mCons (mC (.int 0)) (mCons (mC (.int 0)) (mCons (mC (.int 1)) mNil)))) (gNm 1))
    (mSeq (mAsg (mCel mNil) (gNm 2))
    (mSeq (mAsg (mCel mNil) (gNm 3))
    (mSeq (mFor (mRng rng1 (mCons (mCall Mi.m_law_next (mCons (mVar 1) (mCons (mVar 0) (mCons (mC (.int 41)) mNil)))) mNil)) (gNm 4) (mSeq (mAsg (mCall Mi.m_law_next (mCons (mVar 1) (mCons (mVar 0) (mCons (mC (.int 3)) mNil)))) (gNm 5))
    (mIfS (mTst (mBin dEq (mVar 5) (mC (.int 0)))) (mSeq (mAsg (mCall Mi.m_law_value (mCons (mVar 1) (mCons (mVar 0) mNil))) (gNm 6))
    (mSeq (mExp (mMet "list" gAppend (mVar 3) (mCons (mTup (mCons (mC (.str "text")) (mCons (mVar 6) mNil))) mNil)))
    (mExp (mMet "list" gAppend (mVar 2) (mCons (mCall Mi.m_law_quote (mCons (mVar 6) mNil)) mNil))))) (mIfS (mTst (mBin dEq (mVar 5) (mC (.int 1)))) (mSeq (mAsg (mBin dIx (mCall Mi.m_law_signs mNil) (mCall Mi.m_law_next (mCons (mVar 1) (mCons (mVar 0) (mCons (mC (.int 12)) mNil))))) (gNm 7))
    (mSeq (mExp (mMet "list" gAppend (mVar 3) (mCons (mTup (mCons (mC (.str "sign")) (mCons (mVar 7) mNil))) mNil)))
    (mExp (mMet "list" gAppend (mVar 2) (mCons (mVar 7) mNil))))) (mSeq (mAsg (mCall Mi.m_law_name (mCons (mVar 1) (mCons (mVar 0) mNil))) (gNm 8))
    (mSeq (mIfS (mTst (mBin dEq (mCall Mi.m_law_next (mCons (mVar 1) (mCons (mVar 0) (mCons (mC (.int 3)) mNil)))) (mC (.int 0)))) (mAsg (mBin dIx (mCall Mi.m_law_reserved mNil) (mCall Mi.m_law_next (mCons (mVar 1) (mCons (mVar 0) (mCons (mC (.int 16)) mNil))))) (gNm 8)) mNext)
    (mSeq (mExp (mMet "list" gAppend (mVar 3) (mCons (mTup (mCons (mC (.str "word")) (mCons (mVar 8) mNil))) mNil)))
    (mExp (mMet "list" gAppend (mVar 2) (mCons (mVar 8) mNil))))))))))
    (mSeq (mAsg (mBin dEq (mCall Mi.m_law_next (mCons (mVar 1) (mCons (mVar 0) (mCons (mC (.int 2)) mNil)))) (mC (.int 0))) (gNm 9))
    (mSeq (mIfS (mTst (mVar 9)) (mSeq (mExp (mMet "list" gAppend (mVar 3) (mCons (mTup (mCons (mC (.str "error")) (mCons (mC (.str "")) mNil))) mNil)))
    (mExp (mMet "list" gAppend (mVar 2) (mCons (mCall Mi.m_law_odd (mCons (mVar 1) (mCons (mVar 0) mNil))) mNil)))) mNext)
    (mSeq (mAsg (mCel mNil) (gNm 10))
    (mSeq (mAsg (mCall Mi.m_law_lay (mCons (mVar 1) (mCons (mVar 0) (mCons (mVar 2) (mCons (mVar 10) mNil))))) (gNm 11))
    (mSeq (mIfS (mAndT (mTst (mVar 9)) (mTst (mBin dGt (mCB dLen (mCons (mVar 2) mNil)) (mC (.int 1))))) (mSeq (mAsg (mBin dGt (mBin dIx (mBin dIx (mVar 10) (mUn dNeg (mC (.int 1)))) (mC (.int 1))) (mC (.int 1))) (gNm 12))
    (mIfS (mOrT (mNotT (mTst (mVar 12))) (mTst (mBin dNotIn (mBin dIx (mVar 11) (mBin dSub (mBin dSub (mCB dLen (mCons (mVar 11) mNil)) (mCB dLen (mCons (mBin dIx (mVar 2) (mUn dNeg (mC (.int 1)))) mNil))) (mC (.int 1)))) (mC (.str " \n"))))) (mSeq (mAsg (mBin dIx (mVar 10) (mUn dNeg (mC (.int 1)))) (gNm 13))
    (mSeq (mSub (mTup (mCons (mBin dIx (mVar 13) (mC (.int 0))) (mCons (mBin dAdd (mBin dIx (mVar 13) (mC (.int 1))) (mC (.int 1))) mNil))) (mVar 10) (mUn dNeg (mC (.int 1))))
    (mAsg (mBin dAdd (mBin dAdd (mSl (mVar 11) mNoP (mPart (mBin dSub (mCB dLen (mCons (mVar 11) mNil)) (mCB dLen (mCons (mBin dIx (mVar 2) (mUn dNeg (mC (.int 1)))) mNil))))) (mC (.str " "))) (mBin dIx (mVar 2) (mUn dNeg (mC (.int 1))))) (gNm 11)))) mNext)) mNext)
    (mSeq (mAsg (mBin dAdd (mVar 11) (mBin dIx (mLst (mCons (mC (.str "")) (mCons (mC (.str " ")) (mCons (mC (.str "\n")) mNil)))) (mCall Mi.m_law_next (mCons (mVar 1) (mCons (mVar 0) (mCons (mC (.int 3)) mNil)))))) (gNm 11))
    (mSeq (mAsg (mComp (mRng rng1 (mCons (mCB dLen (mCons (mVar 3) mNil)) mNil)) [4] (gNm 4) mYes (mTup (mCons (mBin dIx (mBin dIx (mVar 3) (mVar 4)) (mC (.int 0))) (mCons (mBin dIx (mBin dIx (mVar 3) (mVar 4)) (mC (.int 1))) (mCons (mBin dIx (mBin dIx (mVar 10) (mVar 4)) (mC (.int 0))) (mCons (mBin dIx (mBin dIx (mVar 10) (mVar 4)) (mC (.int 1))) mNil)))))) (gNm 14))
    (mSeq (mIfS (mAndT (mTst (mVar 9)) (mTst (mBin dEq (mCall Mi.m_law_next (mCons (mVar 1) (mCons (mVar 0) (mCons (mC (.int 2)) mNil)))) (mC (.int 0))))) (mAsg (mBin dAdd (mVar 11) (mBin dIx (mLst (mCons (mC (.str " set x")) (mCons (mC (.str "\nset")) (mCons (mC (.str " 7")) (mCons (mC (.str "\n\"a\"")) mNil))))) (mCall Mi.m_law_next (mCons (mVar 1) (mCons (mVar 0) (mCons (mC (.int 4)) mNil)))))) (gNm 11)) mNext)
    (mRet (mCall Mi.m_law_same (mCons (mCall Mi.m_tokens_2 (mCons (mVar 11) mNil)) (mCons (mCB dTupleOf (mCons (mVar 14) mNil)) mNil))))))))))))))))
def m_law_4 : MF := run 15 b_law_4
def b_is_plain : MS := (mSeq (mAsg (mCB dOrd (mCons (mVar 0) mNil)) (gNm 1))
    (mRet (mOr (mBin dEq (mVar 0) (mC (.str "\n"))) (mAnd (mChn dLe dLe (mC (.int 32)) (mVar 1) (mC (.int 126))) (mBin dNe (mVar 1) (mC (.int 37)))))))
def m_is_plain : MF := run 2 b_is_plain
def b_claim_text : MS := (mSeq (mAsg (mVar 0) (gTp 2 (gsCons (gNm 1) (gsCons (gNm 2) gsNil))))
    (mRet (mBin dAdd (mBin dAdd (mVar 1) (mC (.str "\n"))) (mVar 2))))
def m_claim_text : MF := run 3 b_claim_text
def b_text_fault : MS := (mSeq (mIfS (mTst (mBin dGt (mCB dLen (mCons (mVar 0) mNil)) (mC (.int 2000)))) (mRet (mC (.str "too long"))) mNext)
    (mSeq (mIfS (mNotT (mTst (mCB dAll (mCons (mComp (mI (mVar 0)) [1] (gNm 1) mYes (mCall Mi.m_is_plain (mCons (mVar 1) mNil))) mNil)))) (mRet (mC (.str "bad character"))) mNext)
    (mRet (mC .non))))
def m_text_fault : MF := run 2 b_text_fault
def b_law_fault : MS := (mSeq (mIfS (mTst (mBin dGt (mCB dLen (mCons (mVar 0) mNil)) (mC (.int 2000)))) (mRet (mC (.str "too long"))) mNext)
    (mSeq (mAsg (mMet "str" (gP dJoin) (mC (.str "")) (mCons (mComp (mRng rng1 (mCons (mC (.int 95)) mNil)) [3] (gNm 3) mYes (mCall Mi.m_law_char (mCons (mVar 3) mNil))) mNil)) (gNm 1))
    (mSeq (mFor (mI (mVar 0)) (gNm 2) (mIfS (mTst (mBin dNotIn (mVar 2) (mVar 1))) (mRet (mC (.str "bad character"))) mNext))
    (mRet (mC .non)))))
def m_law_fault : MF := run 4 b_law_fault
def b_is_short : MS := (mRet (mAnd (mBin dLe (mCB dLen (mCons (mVar 0) mNil)) (mVar 1)) (mBin dIs (mCall Mi.m_text_fault (mCons (mVar 0) mNil)) (mC .non))))
def m_is_short : MF := run 2 b_is_short
def b_law_doc : MS := (mSeq (mAsg (mCall Mi.m_law_words (mCons (mVar 0) (mCons (mVar 1) mNil))) (gNm 3))
    (mSeq (mIfS (mAndT (mTst (mVar 2)) (mTst (mBin dEq (mCall Mi.m_law_next (mCons (mVar 0) (mCons (mVar 1) (mCons (mC (.int 12)) mNil)))) (mC (.int 0))))) (mAsg (mBin dAdd (mVar 3) (mBin dMul (mC (.str "ab\n")) (mBin dAdd (mC (.int 600)) (mCall Mi.m_law_next (mCons (mVar 0) (mCons (mVar 1) (mCons (mC (.int 120)) mNil))))))) (gNm 3)) mNext)
    (mSeq (mIfS (mAndT (mTst (mVar 2)) (mTst (mBin dEq (mCall Mi.m_law_next (mCons (mVar 0) (mCons (mVar 1) (mCons (mC (.int 12)) mNil)))) (mC (.int 0))))) (mAsg (mBin dAdd (mVar 3) (mBin dMul (mC (.str "abcde")) (mBin dSub (mC (.int 400)) (mCall Mi.m_law_next (mCons (mVar 0) (mCons (mVar 1) (mCons (mC (.int 2)) mNil))))))) (gNm 3)) mNext)
    (mSeq (mIfS (mAndT (mTst (mVar 2)) (mTst (mBin dEq (mCall Mi.m_law_next (mCons (mVar 0) (mCons (mVar 1) (mCons (mC (.int 14)) mNil)))) (mC (.int 0))))) (mSeq (mAsg (mCall Mi.m_law_next (mCons (mVar 0) (mCons (mVar 1) (mCons (mBin dAdd (mCB dLen (mCons (mVar 3) mNil)) (mC (.int 1))) mNil)))) (gNm 4))
    (mAsg (mBin dAdd (mBin dAdd (mSl (mVar 3) mNoP (mPart (mVar 4))) (mC (.str "\t"))) (mSl (mVar 3) (mPart (mVar 4)) mNoP)) (gNm 3))) mNext)
    (mRet (mVar 3))))))
def m_law_doc : MF := run 5 b_law_doc
def b_is_told : MS := (mSeq (mIfS (mTst (mBin dEq (mVar 0) (mC (.str "made")))) (mRet (mBin dIs (mCall Mi.m_text_fault (mCons (mVar 1) mNil)) (mC .non))) mNext)
    (mRet (mAnd (mBin dEq (mVar 0) (mC (.str "failed"))) (mAnd (mBin dNotIn (mC (.str "\n")) (mVar 1)) (mCall Mi.m_is_short (mCons (mVar 1) (mCons (mC (.int 80)) mNil)))))))
def m_is_told : MF := run 2 b_is_told
def b_read_claim : MS := (mSeq (mAsg (mMet "str" (gP dPartition) (mVar 0) (mCons (mC (.str "\n")) mNil)) (gTp 3 (gsCons (gNm 1) (gsCons (gNm 2) (gsCons (gNm 3) gsNil)))))
    (mSeq (mIfS (mOrT (mTst (mBin dEq (mVar 2) (mC (.str "")))) (mNotT (mTst (mCall Mi.m_is_told (mCons (mVar 1) (mCons (mVar 3) mNil)))))) (mRaise0 "BadMessage") mNext)
    (mRet (mTup (mCons (mVar 1) (mCons (mVar 3) mNil))))))
def m_read_claim : MF := run 4 b_read_claim
def b_law_5 : MS := (mSeq (mAsg (mCel (mCons (mC (.int 0)) (mCons (mC (.int 0)) (mCons (mC (.int 1)) mNil)))) (gNm 1))
    (mSeq (mAsg (mBin dIx (mLst (mCons (mC (.str "made")) (mCons (mC (.str "failed")) (mCons (mC (.str "made")) (mCons (mC (.str "failed")) (mCons (mC (.str "Made")) (mCons (mC (.str "failed ")) (mCons (mC (.str "")) mNil)))))))) (mCall Mi.m_law_next (mCons (mVar 1) (mCons (mVar 0) (mCons (mC (.int 7)) mNil))))) (gNm 2))
    (mSeq (mAsg (mCall Mi.m_law_doc (mCons (mVar 1) (mCons (mVar 0) (mCons (mC (.bl true)) mNil)))) (gNm 3))
    (mSeq (mAsg (mCall Mi.m_law_next (mCons (mVar 1) (mCons (mVar 0) (mCons (mC (.int 8)) mNil)))) (gNm 4))
    (mSeq (mIfS (mTst (mBin dEq (mVar 4) (mC (.int 3)))) (mAsg (mBin dMul (mC (.str "r")) (mCall Mi.m_law_next (mCons (mVar 1) (mCons (mVar 0) (mCons (mC (.int 82)) mNil))))) (gNm 3)) mNext)
    (mSeq (mIfS (mTst (mBin dEq (mVar 4) (mC (.int 4)))) (mAsg (mBin dMul (mC (.str "m\n")) (mCall Mi.m_law_next (mCons (mVar 1) (mCons (mVar 0) (mCons (mC (.int 1000)) mNil))))) (gNm 3)) mNext)
    (mSeq (mIfS (mTst (mBin dEq (mVar 4) (mC (.int 0)))) (mAsg (mBin dMul (mC (.str "r")) (mBin dAdd (mC (.int 79)) (mCall Mi.m_law_next (mCons (mVar 1) (mCons (mVar 0) (mCons (mC (.int 3)) mNil)))))) (gNm 3)) mNext)
    (mSeq (mIfS (mTst (mBin dEq (mVar 4) (mC (.int 1)))) (mAsg (mBin dMul (mC (.str "m")) (mBin dAdd (mC (.int 1999)) (mCall Mi.m_law_next (mCons (mVar 1) (mCons (mVar 0) (mCons (mC (.int 3)) mNil)))))) (gNm 3)) mNext)
    (mSeq (mIfS (mTst (mBin dEq (mVar 4) (mC (.int 2)))) (mAsg (mSl (mMet "str" (gP dJoin) (mC (.str "")) (mCons (mComp (mI (mVar 3)) [10] (gNm 10) (mTst (mBin dNe (mVar 10) (mC (.str "\n")))) (mVar 10)) mNil)) mNoP (mPart (mC (.int 80)))) (gNm 3)) mNext)
    (mSeq (mAsg (mBin dAdd (mBin dAdd (mVar 2) (mC (.str "\n"))) (mVar 3)) (gNm 5))
    (mSeq (mIfS (mTst (mBin dEq (mCall Mi.m_law_next (mCons (mVar 1) (mCons (mVar 0) (mCons (mC (.int 6)) mNil)))) (mC (.int 0)))) (mSeq (mAsg (mBin dAdd (mVar 2) (mVar 3)) (gNm 5))
    (mSeq (mAsg (mMet "str" (gP dFind) (mVar 5) (mCons (mC (.str "\n")) mNil)) (gNm 6))
    (mSeq (mAsg (mVar 5) (gNm 2))
    (mIfS (mTst (mBin dGe (mVar 6) (mC (.int 0)))) (mSeq (mAsg (mSl (mVar 5) mNoP (mPart (mVar 6))) (gNm 2))
    (mAsg (mSl (mVar 5) (mPart (mBin dAdd (mVar 6) (mC (.int 1)))) mNoP) (gNm 3))) mNext)))) mNext)
    (mSeq (mAsg (mAnd (mBin dIn (mC (.str "\n")) (mVar 5)) (mAnd (mOr (mBin dEq (mVar 2) (mC (.str "made"))) (mBin dEq (mVar 2) (mC (.str "failed")))) (mBin dIs (mCall Mi.m_law_fault (mCons (mVar 3) mNil)) (mC .non)))) (gNm 7))
    (mSeq (mIfS (mAndT (mTst (mBin dEq (mVar 2) (mC (.str "failed")))) (mOrT (mTst (mBin dGt (mCB dLen (mCons (mVar 3) mNil)) (mC (.int 80)))) (mTst (mBin dIn (mC (.str "\n")) (mVar 3))))) (mAsg (mC (.bl false)) (gNm 7)) mNext)
    (mSeq (mIfS (mAndT (mTst (mVar 7)) (mNotT (mTst (mCall Mi.m_law_same (mCons (mCall Mi.m_claim_text (mCons (mTup (mCons (mVar 2) (mCons (mVar 3) mNil))) mNil)) (mCons (mVar 5) mNil)))))) (mRet (mC (.bl false))) mNext)
    (mSeq (mTryAs ["BadMessage"] [] 9 (mAsg (mCall Mi.m_read_claim (mCons (mVar 5) mNil)) (gNm 8)) (fun _ fs => (mRet (mAnd (mNot (mVar 7)) (mC (.bl true))))))
    (mRet (mAnd (mVar 7) (mCall Mi.m_law_same (mCons (mVar 8) (mCons (mTup (mCons (mVar 2) (mCons (mVar 3) mNil))) mNil))))))))))))))))))))
def m_law_5 : MF := run 11 b_law_5
def b_key_text : MS := (mSeq (mAsg (mVar 0) (gTp 3 (gsCons (gNm 1) (gsCons (gNm 2) (gsCons (gNm 3) gsNil)))))
    (mSeq (mAsg (mCel (mCons (mVar 1) mNil)) (gNm 4))
    (mSeq (mExp (mMet "list" gExtend (mVar 4) (mCons (mComp (mI (mVar 2)) [5] (gNm 5) mYes (mBin dAdd (mC (.str "arg ")) (mVar 5))) mNil)))
    (mSeq (mExp (mMet "list" gExtend (mVar 4) (mCons (mComp (mI (mVar 3)) [6] (gNm 6) mYes (mFs "in " (mVar 6))) mNil)))
    (mRet (mMet "str" (gP dJoin) (mC (.str "")) (mCons (mComp (mI (mVar 4)) [7] (gNm 7) mYes (mBin dAdd (mVar 7) (mC (.str "\n")))) mNil)))))))
def m_key_text : MF := run 8 b_key_text
def b_are_args : MS := (mRet (mAnd (mBin dLe (mCB dLen (mCons (mVar 0) mNil)) (mC (.int 12))) (mCB dAll (mCons (mComp (mI (mVar 0)) [1] (gNm 1) mYes (mCall Mi.m_is_short (mCons (mVar 1) (mCons (mC (.int 60)) mNil)))) mNil))))
def m_are_args : MF := run 2 b_are_args
def b_is_word : MS := (mRet (mBin dEq (mCall Mi.m_tokens_2 (mCons (mVar 0) mNil)) (mTup (mCons (mTup (mCons (mC (.str "word")) (mCons (mVar 0) (mCons (mC (.int 1)) (mCons (mC (.int 1)) mNil))))) mNil))))
def m_is_word : MF := run 1 b_is_word
def b_law_is_word : MS := (mSeq (mAsg (mC (.str "abcdefghijklmnopqrstuvwxyz")) (gNm 1))
    (mSeq (mIfS (mOrT (mTst (mBin dGt (mCB dLen (mCons (mVar 0) mNil)) (mC (.int 20)))) (mTst (mBin dNotIn (mBin dIx (mVar 0) (mC (.int 0))) (mVar 1)))) (mRet (mC (.bl false))) mNext)
    (mRet (mBin dEq (mCB dLen (mCons (mComp (mI (mVar 0)) [2] (gNm 2) (mTst (mBin dNotIn (mVar 2) (mBin dAdd (mVar 1) (mC (.str "0123456789_"))))) (mC (.int 1))) mNil)) (mC (.int 0))))))
def m_law_is_word : MF := run 3 b_law_is_word
def b_law_drawn_tool : MS := (mSeq (mAsg (mCall Mi.m_law_next (mCons (mVar 0) (mCons (mVar 1) (mCons (mC (.int 4)) mNil)))) (gNm 2))
    (mSeq (mIfS (mTst (mBin dEq (mVar 2) (mC (.int 0)))) (mRet (mBin dIx (mCall Mi.m_law_reserved mNil) (mCall Mi.m_law_next (mCons (mVar 0) (mCons (mVar 1) (mCons (mC (.int 16)) mNil)))))) mNext)
    (mSeq (mAsg (mSl (mC (.str "abcdefghij_0123456789z")) mNoP (mPart (mBin dIx (mLst (mCons (mC (.int 1)) (mCons (mC (.int 2)) (mCons (mC (.int 19)) (mCons (mC (.int 20)) (mCons (mC (.int 21)) mNil)))))) (mCall Mi.m_law_next (mCons (mVar 0) (mCons (mVar 1) (mCons (mC (.int 5)) mNil))))))) (gNm 3))
    (mSeq (mIfS (mTst (mBin dEq (mVar 2) (mC (.int 1)))) (mSeq (mAsg (mCall Mi.m_law_next (mCons (mVar 0) (mCons (mVar 1) (mCons (mCB dLen (mCons (mVar 3) mNil)) mNil)))) (gNm 4))
    (mAsg (mBin dAdd (mBin dAdd (mSl (mVar 3) mNoP (mPart (mVar 4))) (mBin dIx (mLst (mCons (mC (.str "A")) (mCons (mC (.str "-")) (mCons (mC (.str "1")) (mCons (mC (.str "_")) (mCons (mC (.str " ")) (mCons (mC (.str "z")) mNil))))))) (mCall Mi.m_law_next (mCons (mVar 0) (mCons (mVar 1) (mCons (mC (.int 6)) mNil)))))) (mSl (mVar 3) (mPart (mBin dAdd (mVar 4) (mC (.int 1)))) mNoP)) (gNm 3))) mNext)
    (mRet (mVar 3))))))
def m_law_drawn_tool : MF := run 5 b_law_drawn_tool
def b_law_turned : MS := (mSeq (mAsg (mCall Mi.m_law_next (mCons (mVar 0) (mCons (mVar 1) (mCons (mC (.int 3)) mNil)))) (gNm 4))
    (mSeq (mAsg (mBin dAdd (mBin dAdd (mLst (mCons (mVar 2) mNil)) (mBin dIx (mVar 3) (mC (.int 0)))) (mBin dIx (mVar 3) (mC (.int 1)))) (gNm 5))
    (mSeq (mIfS (mTst (mBin dEq (mVar 4) (mC (.int 0)))) (mAsg (mBin dAdd (mBin dAdd (mBin dAdd (mLst (mCons (mVar 2) mNil)) (mBin dIx (mVar 3) (mC (.int 1)))) (mLst (mCons (mC (.str "in 7")) (mCons (mC (.str "arg a")) mNil)))) (mBin dIx (mVar 3) (mC (.int 0)))) (gNm 5)) mNext)
    (mSeq (mIfS (mTst (mBin dEq (mVar 4) (mC (.int 1)))) (mAsg (mBin dAdd (mVar 5) (mLst (mCons (mBin dAdd (mC (.str "in 0")) (mCB dStr (mCons (mCall Mi.m_law_next (mCons (mVar 0) (mCons (mVar 1) (mCons (mC (.int 1000)) mNil)))) mNil))) mNil))) (gNm 5)) mNext)
    (mSeq (mAsg (mMet "str" (gP dJoin) (mC (.str "")) (mCons (mComp (mI (mVar 5)) [7] (gNm 7) mYes (mBin dAdd (mVar 7) (mC (.str "\n")))) mNil)) (gNm 6))
    (mRet (mSl (mVar 6) mNoP (mPart (mBin dSub (mCB dLen (mCons (mVar 6) mNil)) (mCB dInt (mCons (mBin dEq (mVar 4) (mC (.int 2))) mNil)))))))))))
def m_law_turned : MF := run 8 b_law_turned
def b_law_claim_refused : MS := (mSeq (mAsg (mBin dIx (mLst (mCons (mC (.str "made")) (mCons (mC (.str "failed")) mNil))) (mCall Mi.m_law_next (mCons (mVar 0) (mCons (mVar 1) (mCons (mC (.int 2)) mNil))))) (gNm 2))
    (mSeq (mAsg (mCall Mi.m_law_next (mCons (mVar 0) (mCons (mVar 1) (mCons (mBin dAdd (mCB dLen (mCons (mVar 2) mNil)) (mC (.int 1))) mNil)))) (gNm 3))
    (mSeq (mAsg (mLst (mCons (mVar 2) (mCons (mC (.str "")) (mCons (mBin dAdd (mC (.str "\n")) (mVar 2)) (mCons (mBin dAdd (mVar 2) (mC (.str " \na"))) (mCons (mBin dAdd (mVar 2) (mC (.str "s\na"))) (mCons (mBin dAdd (mBin dAdd (mC (.str " ")) (mVar 2)) (mC (.str "\na"))) (mCons (mBin dAdd (mBin dAdd (mSl (mVar 2) mNoP (mPart (mVar 3))) (mSl (mVar 2) (mPart (mBin dAdd (mVar 3) (mC (.int 1)))) mNoP)) (mC (.str "a\nb"))) mNil)))))))) (gNm 4))
    (mSeq (mAsg (mBin dAdd (mVar 4) (mLst (mCons (mBin dAdd (mBin dAdd (mBin dAdd (mSl (mVar 2) mNoP (mPart (mVar 3))) (mC (.str "M"))) (mSl (mVar 2) (mPart (mVar 3)) mNoP)) (mC (.str "\na"))) (mCons (mBin dAdd (mVar 2) (mC (.str "a"))) (mCons (mBin dAdd (mBin dAdd (mC (.str "a\n")) (mVar 2)) (mC (.str "\n"))) mNil))))) (gNm 4))
    (mSeq (mTryAs ["BadMessage"] [] 5 (mExp (mCall Mi.m_read_claim (mCons (mBin dIx (mVar 4) (mCall Mi.m_law_next (mCons (mVar 0) (mCons (mVar 1) (mCons (mC (.int 10)) mNil))))) mNil))) (fun _ fs => (mRet (mAnd (mC (.bl true)) (mNot (mC (.bl false)))))))
    (mRet (mC (.bl false))))))))
def m_law_claim_refused : MF := run 6 b_law_claim_refused
def b_law_claim_right : MS := (mSeq (mAsg (mBin dIx (mLst (mCons (mC (.str "made")) (mCons (mC (.str "failed")) mNil))) (mCall Mi.m_law_next (mCons (mVar 0) (mCons (mVar 1) (mCons (mC (.int 2)) mNil))))) (gNm 2))
    (mSeq (mAsg (mMet "str" (gP dJoin) (mC (.str "")) (mCons (mComp (mRng rng1 (mCons (mCall Mi.m_law_next (mCons (mVar 0) (mCons (mVar 1) (mCons (mC (.int 12)) mNil)))) mNil)) [9] (gNm 9) mYes (mCall Mi.m_law_char (mCons (mCall Mi.m_law_next (mCons (mVar 0) (mCons (mVar 1) (mCons (mC (.int 95)) mNil)))) mNil))) mNil)) (gNm 3))
    (mSeq (mAsg (mBin dAdd (mVar 3) (mBin dMul (mC (.str "needs //a:b ")) (mCall Mi.m_law_next (mCons (mVar 0) (mCons (mVar 1) (mCons (mC (.int 20)) mNil)))))) (gNm 3))
    (mSeq (mIfS (mTst (mBin dEq (mCall Mi.m_law_next (mCons (mVar 0) (mCons (mVar 1) (mCons (mC (.int 3)) mNil)))) (mC (.int 0)))) (mAsg (mBin dMul (mC (.str "r")) (mBin dAdd (mC (.int 79)) (mCall Mi.m_law_next (mCons (mVar 0) (mCons (mVar 1) (mCons (mC (.int 3)) mNil)))))) (gNm 3)) mNext)
    (mSeq (mIfS (mTst (mBin dEq (mCall Mi.m_law_next (mCons (mVar 0) (mCons (mVar 1) (mCons (mC (.int 9)) mNil)))) (mC (.int 0)))) (mAsg (mBin dAdd (mBin dMul (mC (.str "made\n")) (mC (.int 399))) (mSl (mC (.str "abcdef")) mNoP (mPart (mBin dAdd (mC (.int 4)) (mCall Mi.m_law_next (mCons (mVar 0) (mCons (mVar 1) (mCons (mC (.int 3)) mNil)))))))) (gNm 3)) mNext)
    (mSeq (mIfS (mTst (mBin dEq (mCall Mi.m_law_next (mCons (mVar 0) (mCons (mVar 1) (mCons (mC (.int 12)) mNil)))) (mC (.int 0)))) (mAsg (mBin dAdd (mVar 3) (mC (.str "\t"))) (gNm 3)) mNext)
    (mSeq (mAsg (mBin dAdd (mBin dAdd (mVar 2) (mC (.str "\n"))) (mVar 3)) (gNm 4))
    (mSeq (mAsg (mOr (mAnd (mBin dEq (mVar 2) (mC (.str "made"))) (mBin dLt (mCB dLen (mCons (mVar 3) mNil)) (mC (.int 2001)))) (mAnd (mBin dLt (mCB dLen (mCons (mVar 3) mNil)) (mC (.int 105))) (mBin dNotIn (mC (.str "\n")) (mVar 3)))) (gNm 5))
    (mSeq (mIfS (mAndT (mTst (mVar 5)) (mAndT (mTst (mBin dNotIn (mC (.str "\t")) (mVar 3))) (mNotT (mTst (mCall Mi.m_law_same (mCons (mCall Mi.m_claim_text (mCons (mTup (mCons (mVar 2) (mCons (mVar 3) mNil))) mNil)) (mCons (mVar 4) mNil))))))) (mRet (mC (.bl false))) mNext)
    (mSeq (mAsg (mOr (mAnd (mBin dEq (mVar 2) (mC (.str "made"))) (mBin dLt (mCB dLen (mCons (mVar 3) mNil)) (mC (.int 2001)))) (mAnd (mBin dLt (mCB dLen (mCons (mVar 3) mNil)) (mC (.int 81))) (mBin dNotIn (mC (.str "\n")) (mVar 3)))) (gNm 6))
    (mSeq (mAsg (mAnd (mVar 6) (mBin dNotIn (mC (.str "\t")) (mVar 3))) (gNm 6))
    (mSeq (mTryAs ["BadMessage"] [] 8 (mAsg (mCall Mi.m_read_claim (mCons (mVar 4) mNil)) (gNm 7)) (fun _ fs => (mRet (mAnd (mNot (mVar 6)) (mC (.bl true))))))
    (mRet (mAnd (mVar 6) (mCall Mi.m_law_same (mCons (mVar 7) (mCons (mTup (mCons (mVar 2) (mCons (mVar 3) mNil))) mNil)))))))))))))))))
def m_law_claim_right : MF := run 10 b_law_claim_right
def b_is_numeral : MS := (mSeq (mIfS (mOrT (mTst (mBin dEq (mVar 0) (mC (.str "")))) (mTst (mBin dGt (mCB dLen (mCons (mVar 0) mNil)) (mVar 1)))) (mRet (mC (.bl false))) mNext)
    (mSeq (mIfS (mTst (mBin dEq (mBin dIx (mVar 0) (mC (.int 0))) (mC (.str "0")))) (mRet (mBin dEq (mVar 0) (mC (.str "0")))) mNext)
    (mRet (mCB dAll (mCons (mComp (mI (mVar 0)) [2] (gNm 2) mYes (mBin dIn (mVar 2) (mC (.str "0123456789")))) mNil)))))
def m_is_numeral : MF := run 3 b_is_numeral
def b_is_name_2 : MS := (mRet (mAnd (mCall Mi.m_is_numeral (mCons (mVar 0) (mCons (mC (.int 5)) mNil))) (mBin dNe (mVar 0) (mC (.str "0")))))
def m_is_name_2 : MF := run 1 b_is_name_2
def b_are_names_2 : MS := (mRet (mAnd (mBin dLe (mCB dLen (mCons (mVar 0) mNil)) (mC (.int 24))) (mCB dAll (mCons (mComp (mI (mVar 0)) [1] (gNm 1) mYes (mCall Mi.m_is_name_2 (mCons (mVar 1) mNil))) mNil))))
def m_are_names_2 : MF := run 2 b_are_names_2
def b_read_key_3 : MS := (mSeq (mAsg (mMet "str" (gP dSplit) (mVar 0) (mCons (mC (.str "\n")) mNil)) (gNm 1))
    (mSeq (mAsg (mBin dIx (mVar 1) (mC (.int 0))) (gNm 2))
    (mSeq (mAsg (mComp (mI (mVar 1)) [6] (gNm 6) (mTst (mMet "str" (gP dStarts) (mVar 6) (mCons (mC (.str "arg ")) mNil))) (mSl (mVar 6) (mPart (mC (.int 4))) mNoP)) (gNm 3))
    (mSeq (mAsg (mComp (mI (mVar 1)) [6] (gNm 6) (mTst (mMet "str" (gP dStarts) (mVar 6) (mCons (mC (.str "in ")) mNil))) (mSl (mVar 6) (mPart (mC (.int 3))) mNoP)) (gNm 4))
    (mSeq (mIfS (mOrT (mNotT (mTst (mCall Mi.m_is_word (mCons (mVar 2) mNil)))) (mOrT (mNotT (mTst (mCall Mi.m_are_args (mCons (mVar 3) mNil)))) (mNotT (mTst (mCall Mi.m_are_names_2 (mCons (mVar 4) mNil)))))) (mRaise0 "BadMessage") mNext)
    (mSeq (mAsg (mTup (mCons (mVar 2) (mCons (mCB dTupleOf (mCons (mVar 3) mNil)) (mCons (mCB dTupleOf (mCons (mComp (mI (mVar 4)) [7] (gNm 7) mYes (mCB dIntS (mCons (mVar 7) mNil))) mNil)) mNil)))) (gNm 5))
    (mSeq (mIfS (mTst (mBin dNe (mCall Mi.m_key_text (mCons (mVar 5) mNil)) (mVar 0))) (mRaise0 "BadMessage") mNext)
    (mRet (mVar 5)))))))))
def m_read_key_3 : MF := run 8 b_read_key_3
def b_law_told_2 : MS := (mTryAs ["BadMessage"] [] 2 (mSeq (mAsg (mCall Mi.m_read_key_3 (mCons (mVar 0) mNil)) (gNm 1))
    (mRet (mIf (mTst (mCB dIsi (mCons (mVar 1) (mCons (mC (.ty "list")) mNil)))) (mLst (mCons (mC (.str "odd")) mNil)) (mVar 1)))) (fun _ fs => (mRet (mLst (mCons (mC (.str "refused")) (mCons (mAnd (mC (.bl true)) (mNot (mC (.bl false)))) mNil))))))
def m_law_told_2 : MF := run 3 b_law_told_2
def b_law_key_right_2 : MS := (mSeq (mAsg (mCall Mi.m_law_drawn_tool (mCons (mVar 0) (mCons (mVar 1) mNil))) (gNm 2))
    (mSeq (mAsg (mCall Mi.m_law_next (mCons (mVar 0) (mCons (mVar 1) (mCons (mBin dIx (mLst (mCons (mC (.int 3)) (mCons (mC (.int 3)) (mCons (mC (.int 14)) mNil)))) (mCall Mi.m_law_next (mCons (mVar 0) (mCons (mVar 1) (mCons (mC (.int 3)) mNil))))) mNil)))) (gNm 3))
    (mSeq (mAsg (mCB dTupleOf (mCons (mComp (mRng rng1 (mCons (mVar 3) mNil)) [10] (gNm 10) mYes (mBin dIx (mLst (mCons (mC (.str "")) (mCons (mC (.str "a")) (mCons (mC (.str " a b ")) (mCons (mBin dMul (mC (.str "x")) (mC (.int 59))) (mCons (mBin dMul (mC (.str "x")) (mC (.int 60))) (mCons (mBin dMul (mC (.str "x")) (mC (.int 61))) mNil))))))) (mCall Mi.m_law_next (mCons (mVar 0) (mCons (mVar 1) (mCons (mBin dSub (mC (.int 6)) (mCB dInt (mCons (mBin dGt (mVar 3) (mC (.int 2))) mNil))) mNil)))))) mNil)) (gNm 4))
    (mSeq (mAsg (mCall Mi.m_law_next (mCons (mVar 0) (mCons (mVar 1) (mCons (mBin dIx (mLst (mCons (mC (.int 3)) (mCons (mC (.int 3)) (mCons (mC (.int 26)) mNil)))) (mCall Mi.m_law_next (mCons (mVar 0) (mCons (mVar 1) (mCons (mC (.int 3)) mNil))))) mNil)))) (gNm 3))
    (mSeq (mAsg (mCB dTupleOf (mCons (mComp (mRng rng1 (mCons (mVar 3) mNil)) [10] (gNm 10) mYes (mBin dIx (mLst (mCons (mC (.int 1)) (mCons (mC (.int 9)) (mCons (mC (.int 10)) (mCons (mC (.int 28)) (mCons (mC (.int 345)) (mCons (mC (.int 6789)) (mCons (mC (.int 99999)) (mCons (mC (.int 100000)) (mCons (mC (.int 0)) mNil)))))))))) (mCall Mi.m_law_next (mCons (mVar 0) (mCons (mVar 1) (mCons (mBin dSub (mC (.int 9)) (mBin dMul (mC (.int 2)) (mCB dInt (mCons (mBin dGt (mVar 3) (mC (.int 2))) mNil)))) mNil)))))) mNil)) (gNm 5))
    (mSeq (mAsg (mLst (mCons (mComp (mI (mVar 4)) [11] (gNm 11) mYes (mBin dAdd (mC (.str "arg ")) (mVar 11))) (mCons (mComp (mI (mVar 5)) [12] (gNm 12) mYes (mBin dAdd (mC (.str "in ")) (mCB dStr (mCons (mVar 12) mNil)))) mNil))) (gNm 6))
    (mSeq (mAsg (mMet "str" (gP dJoin) (mC (.str "")) (mCons (mComp (mI (mBin dAdd (mBin dAdd (mLst (mCons (mVar 2) mNil)) (mBin dIx (mVar 6) (mC (.int 0)))) (mBin dIx (mVar 6) (mC (.int 1))))) [13] (gNm 13) mYes (mBin dAdd (mVar 13) (mC (.str "\n")))) mNil)) (gNm 7))
    (mSeq (mIfS (mTst (mBin dEq (mCall Mi.m_law_next (mCons (mVar 0) (mCons (mVar 1) (mCons (mC (.int 4)) mNil)))) (mC (.int 0)))) (mRet (mBin dEq (mCall Mi.m_law_told_2 (mCons (mCall Mi.m_law_turned (mCons (mVar 0) (mCons (mVar 1) (mCons (mVar 2) (mCons (mVar 6) mNil))))) mNil)) (mLst (mCons (mC (.str "refused")) (mCons (mC (.bl true)) mNil))))) mNext)
    (mSeq (mAsg (mAnd (mCall Mi.m_law_is_word (mCons (mVar 2) mNil)) (mAnd (mBin dLt (mCB dLen (mCons (mVar 4) mNil)) (mC (.int 13))) (mAnd (mBin dLt (mCB dLen (mCons (mVar 5) mNil)) (mC (.int 25))) (mAnd (mBin dNotIn (mBin dMul (mC (.str "x")) (mC (.int 61))) (mVar 4)) (mAnd (mBin dNotIn (mC (.int 100000)) (mVar 5)) (mBin dNotIn (mC (.int 0)) (mVar 5))))))) (gNm 8))
    (mSeq (mAsg (mCall Mi.m_law_told_2 (mCons (mVar 7) mNil)) (gNm 9))
    (mSeq (mIfS (mNotT (mTst (mVar 8))) (mRet (mBin dEq (mVar 9) (mLst (mCons (mC (.str "refused")) (mCons (mC (.bl true)) mNil))))) mNext)
    (mRet (mAnd (mCall Mi.m_law_same (mCons (mVar 9) (mCons (mTup (mCons (mVar 2) (mCons (mVar 4) (mCons (mVar 5) mNil)))) mNil))) (mCall Mi.m_law_same (mCons (mCall Mi.m_key_text (mCons (mTup (mCons (mVar 2) (mCons (mVar 4) (mCons (mVar 5) mNil)))) mNil)) (mCons (mVar 7) mNil))))))))))))))))
def m_law_key_right_2 : MF := run 14 b_law_key_right_2
def b_law_10 : MS := (mSeq (mAsg (mCel (mCons (mC (.int 0)) (mCons (mC (.int 0)) (mCons (mC (.int 1)) mNil)))) (gNm 1))
    (mSeq (mFor (mRng rng1 (mCons (mC (.int 3)) mNil)) (gNm 2) (mIfS (mOrT (mNotT (mTst (mCall Mi.m_law_key_right_2 (mCons (mVar 1) (mCons (mVar 0) mNil))))) (mOrT (mNotT (mTst (mCall Mi.m_law_claim_right (mCons (mVar 1) (mCons (mVar 0) mNil))))) (mNotT (mTst (mCall Mi.m_law_claim_refused (mCons (mVar 1) (mCons (mVar 0) mNil))))))) (mRet (mC (.bl false))) mNext))
    (mRet (mC (.bl true)))))
def m_law_10 : MF := run 3 b_law_10
end
end Mi

set_option Elab.async false
set_option linter.all false
set_option autoImplicit false
set_option maxRecDepth 100000
set_option maxHeartbeats 2000000
namespace Vi
open PySem PySem.Spec PyProof.Rows L2
open scoped Classical
/-! ### what a mirror that may raise satisfies -/
abbrev EX := Str → Option (List (Str × D)) → Hap → Prop
abbrev EXS := Str → Option (List (Str × D)) → Env → Hap → Prop
def SatX {α : Type} (r : Rs α) (P : α → Hap → Prop) (E : EX) : Prop := match r with
  | .ok a h => P a h
  | .err c fs h => E c fs h
  | .stuck => False
def SatSX (r : RS) (P : Ps) (E : EXS) : Prop := match r with
  | .nx e h => P.n e h
  | .rt d h => P.r d h
  | .bk e h => P.b e h
  | .ct e h => P.c e h
  | .er c fs e h => E c fs e h
  | .stuck => False
section
variable {α β : Type} {P : α → Hap → Prop} {Q : Ps} {h : Hap} {env : Env} {E : EX} {F : EXS}
theorem SatX.of {r : Rs α} (s : Sat r P) : SatX r P E := by
  cases r with
  | ok a h => exact s
  | err => exact s.elim
  | stuck => exact s.elim
theorem SatSX.of {r : RS} (s : SatS r Q) : SatSX r Q F := by
  cases r with
  | nx e h => exact s
  | rt e h => exact s
  | bk e h => exact s
  | ct e h => exact s
  | er => exact s.elim
  | stuck => exact s.elim
theorem SatX.mono {r : Rs α} {P' : α → Hap → Prop} {E' : EX} (s : SatX r P E) (i : ∀ a h, P a h → P' a h) (j : ∀ c fs h, E c fs h → E' c fs h) : SatX r P' E' := by
  cases r with
  | ok a h => exact i a h s
  | err c fs h => exact j c fs h s
  | stuck => exact s
theorem SatX.sat {r : Rs α} (s : SatX r P fun _ _ _ => False) : Sat r P := by
  cases r with
  | ok a h => exact s
  | err => exact s
  | stuck => exact s
/-- behind a part that does not raise -/
theorem X.seq {a b : MS} (s : SatS (a env h) ⟨fun e h1 => SatSX (b e h1) Q F, Q.r, Q.b, Q.c⟩) : SatSX (mSeq a b env h) Q F := by
  unfold mSeq
  revert s
  cases a env h with
  | nx e h => exact fun s => s
  | rt e h => exact fun s => s
  | bk e h => exact fun s => s
  | ct e h => exact fun s => s
  | er => exact fun s => s.elim
  | stuck => exact fun s => s.elim
theorem X.seqX {a b : MS} (s : SatSX (a env h) ⟨fun e h1 => SatSX (b e h1) Q F, Q.r, Q.b, Q.c⟩ F) : SatSX (mSeq a b env h) Q F := by
  unfold mSeq
  revert s
  cases a env h with
  | nx e h => exact fun s => s
  | rt e h => exact fun s => s
  | bk e h => exact fun s => s
  | ct e h => exact fun s => s
  | er => exact fun s => s
  | stuck => exact fun s => s.elim
theorem X.fn {n : Nat} {b : MS} {ds : List D} {P : D → Hap → Prop} (s : SatSX (b (env0 n ds) h) ⟨fun _ h => P .non h, P, fun _ _ => False, fun _ _ => False⟩ fun c fs _ h => E c fs h) : SatX (run n b ds h) P E := by
  unfold run
  revert s
  cases b (env0 n ds) h with
  | nx e h => exact fun s => s
  | rt e h => exact fun s => s
  | bk e h => exact fun s => s.elim
  | ct e h => exact fun s => s.elim
  | er => exact fun s => s
  | stuck => exact fun s => s.elim
theorem X.ife {t : MT} {a b : MS} (s : Sat (t env h) fun x h1 => (x = true → SatSX (a env h1) Q F) ∧ (x = false → SatSX (b env h1) Q F)) : SatSX (mIfS t a b env h) Q F := by
  unfold mIfS
  revert s
  cases t env h with
  | ok x h1 =>
    intro s
    cases x with
    | true => exact s.1 rfl
    | false => exact s.2 rfl
  | err => exact fun s => s.elim
  | stuck => exact fun s => s.elim
theorem X.raise0 {c : Str} (e : F c none env h) : SatSX (mRaise0 c env h) Q F := e
theorem X.raise {c : Str} {ns : List Str} {a : MA} (s : Sat (a env h) fun xs h1 => xs.length = ns.length ∧ ns.length ≤ 1000 ∧ F c (some (ns.zip xs).reverse) env h1) : SatSX (mRaiseF c ns a env h) Q F := by
  unfold mRaiseF
  revert s
  cases a env h with
  | ok xs h1 =>
    intro s
    show SatSX (if _ then _ else _) _ _
    rw [if_pos ⟨s.1, s.2.1⟩]
    exact s.2.2
  | err => exact fun s => s.elim
  | stuck => exact fun s => s.elim
/-- x = f(..), return f(..), f(..) where f may raise -/
theorem X.bind {m : MF} {a : MA} {k : D → Hap → RS} (s : Sat (a env h) fun xs h1 => SatX (m xs h1) (fun d h2 => SatSX (k d h2) Q F) fun c fs h2 => F c fs env h2) : SatSX (RsS (mCall m a env h) env k) Q F := by
  unfold mCall
  revert s
  cases a env h with
  | ok xs h1 =>
    intro s
    have s : SatX (m xs h1) (fun d h2 => SatSX (k d h2) Q F) fun c fs h2 => F c fs env h2 := s
    show SatSX (RsS (m xs h1) env k) Q F
    revert s
    cases m xs h1 with
    | ok d h2 => exact fun s => s
    | err => exact fun s => s
    | stuck => exact fun s => s.elim
  | err => exact fun s => s.elim
  | stuck => exact fun s => s.elim
theorem X.set {m : MF} {a : MA} {i : Nat} (s : Sat (a env h) fun xs h1 => SatX (m xs h1) (fun d h2 => Q.n (env.set i (some d)) h2) fun c fs h2 => F c fs env h2) : SatSX (mAsg (mCall m a) (gNm i) env h) Q F := X.bind s
theorem X.ret {m : MF} {a : MA} (s : Sat (a env h) fun xs h1 => SatX (m xs h1) Q.r fun c fs h2 => F c fs env h2) : SatSX (mRet (mCall m a) env h) Q F := X.bind s
theorem X.exp {m : MF} {a : MA} (s : Sat (a env h) fun xs h1 => SatX (m xs h1) (fun _ h2 => Q.n env h2) fun c fs h2 => F c fs env h2) : SatSX (mExp (mCall m a) env h) Q F := X.bind s
/-- try: .. except C as e: .. -/
theorem X.tryAs {cs os : List Str} {i : Nat} {b : MS} {su : Str → Option (List (Str × D)) → MS} (s : SatSX (b env h) Q fun c fs e h1 => c ∈ cs ∧ SatS (su c fs (e.set i none) h1) ⟨fun e2 h2 => Q.n (e2.set i none) h2, Q.r, fun e2 h2 => Q.b (e2.set i none) h2, fun e2 h2 => Q.c (e2.set i none) h2⟩) : SatS (mTryAs cs os i b su env h) Q := by
  unfold mTryAs
  revert s
  cases b env h with
  | nx e h => exact fun s => s
  | rt e h => exact fun s => s
  | bk e h => exact fun s => s
  | ct e h => exact fun s => s
  | stuck => exact fun s => s.elim
  | er c fs e h1 =>
    intro s
    obtain ⟨m, s⟩ := s
    show SatS (if _ then _ else _) _
    rw [if_pos m]
    revert s
    cases su c fs (e.set i none) h1 with
    | nx e h => exact fun s => s
    | rt e h => exact fun s => s
    | bk e h => exact fun s => s
    | ct e h => exact fun s => s
    | stuck => exact fun s => s.elim
    | er => exact fun s => s.elim
theorem x_chn {g g' : D → D → Hap → Option D} {a b c : ME} {P : D → Hap → Prop} (s : Sat (a env h) fun x h1 => Sat (b env h1) fun y h2 => ∃ t, g x y h2 = some (.bl t) ∧ (t = true → Sat (c env h2) fun u h4 => Sat (ofO (g' y u h4) h4) P) ∧ (t = false → P (.bl false) h2)) : Sat (mChn g g' a b c env h) P := Sat.bind (s.mono fun x h1 s => Sat.bind (s.mono fun y h2 z => by
  obtain ⟨t, e, z1, z2⟩ := z
  rw [e]
  cases t with
  | true =>
    show Sat ((c env h2).bind fun u h4 => ofO (g' y u h4) h4) P
    exact Sat.bind (z1 rfl)
  | false => exact z2 rfl))
end
/-! ### loops that leave the cells as they were -/
section
variable {env : Env} {h : Hap} {Q : Ps}
theorem x_compFM {s : MI} {vs : List Nat} {g : MG} {c : MT} {e : ME} {P : D → Hap → Prop} (xs : List D) (p : D → Bool) (f : D → D) (hsz : xs.length ≤ sizeLine) (hs : Sat (s env h) fun s h1 => h1 = h ∧ s.1 = xs ∧ s.2 h)
    (he : ∀ x ∈ xs, ∃ e1, g x (wipeE env vs) h = some e1 ∧ Sat (c e1 h) fun t h1 => h1 = h ∧ t = p x ∧ (t = true → Sat (e e1 h) fun d h2 => d = f x ∧ h2 = h)) (k : P (.lst ((xs.filter p).map f)) h) : Sat (mComp s vs g c e env h) P := by
  refine x_compI (fun pre post h1 acc => h1 = h ∧ acc = (pre.filter p).map f) (hs.mono fun s1 h1 z => ?_)
  obtain ⟨rfl, rfl, hg⟩ := z
  refine ⟨⟨rfl, rfl⟩, fun _ _ h2 _ _ z => by rw [z.1]; exact hg, ?_, ?_⟩
  · rintro pre x post h2 acc hx ⟨rfl, rfl⟩
    have hm : x ∈ s1.1 := by rw [hx]; simp
    obtain ⟨e1, q1, q2⟩ := he x hm
    refine ⟨e1, q1, q2.mono fun t h3 z => ?_⟩
    obtain ⟨rfl, rfl, z⟩ := z
    refine ⟨fun ht => ⟨?_, (z ht).mono fun d h4 z => ?_⟩, fun ht => ⟨rfl, ?_⟩⟩
    · have h5 : ((pre.filter p).map f).length ≤ pre.length := by rw [List.length_map]; exact List.length_filter_le _ _
      have h6 : s1.1.length = pre.length + (post.length + 1) := by rw [hx]; simp
      omega
    · obtain ⟨rfl, rfl⟩ := z
      refine ⟨rfl, ?_⟩
      rw [List.filter_append, List.map_append]
      congr 1
      simp [ht]
    · rw [List.filter_append, List.map_append]
      simp [ht]
  · rintro h2 acc ⟨rfl, rfl⟩
    exact k
theorem x_compM {s : MI} {vs : List Nat} {g : MG} {e : ME} {P : D → Hap → Prop} (xs : List D) (f : D → D) (hsz : xs.length ≤ sizeLine) (hs : Sat (s env h) fun s h1 => h1 = h ∧ s.1 = xs ∧ s.2 h)
    (he : ∀ x ∈ xs, ∃ e1, g x (wipeE env vs) h = some e1 ∧ Sat (e e1 h) fun d h2 => d = f x ∧ h2 = h) (k : P (.lst (xs.map f)) h) : Sat (mComp s vs g mYes e env h) P :=
  x_compFM xs (fun _ => true) f hsz hs (fun x m => let ⟨e1, q1, q2⟩ := he x m; ⟨e1, q1, x_yes ⟨rfl, rfl, fun _ => q2⟩⟩) (by rw [List.filter_eq_self.mpr (fun _ _ => rfl)]; exact k)
/-- .. of the signs of a text, of a range's numbers -/
theorem x_signs {m : ME} {z : Str} (hm : Sat (m env h) fun d h1 => d = .str z ∧ h1 = h) : Sat (mI m env h) fun s h1 => h1 = h ∧ s.1 = z.cps.toList.map (fun c => .str (ch c)) ∧ s.2 h := x_mI (hm.mono fun d h1 e => by
  obtain ⟨rfl, rfl⟩ := e
  exact ⟨_, rfl, rfl, rfl, rfl⟩)
theorem x_items {m : ME} {xs : List D} {dd : D} (hd : seqOf dd h = some xs) (hm : Sat (m env h) fun d h1 => d = dd ∧ h1 = h) : Sat (mI m env h) fun s h1 => h1 = h ∧ s.1 = xs ∧ s.2 h := x_mI (hm.mono fun d h1 e => by
  obtain ⟨rfl, rfl⟩ := e
  exact ⟨_, hd, rfl, rfl, hd⟩)
theorem x_nums {a : MA} {j : Int} (hj : -(2 ^ 62) ≤ j ∧ j < 2 ^ 62) (ha : Sat (a env h) fun xs h1 => xs = [.int j] ∧ h1 = h) : Sat (mRng rng1 a env h) fun s h1 => h1 = h ∧ s.1 = rngL 0 j.toNat ∧ s.2 h := x_rng (ha.mono fun d h1 e => by
  obtain ⟨rfl, rfl⟩ := e
  exact x_rng1 hj ⟨rfl, rfl, trivial⟩)
/-- a for that only looks: I holds of the slots in all turns, good of each item that did not end it -/
theorem s_look {s : MI} {g : MG} {b : MS} (xs : List D) (I : Env → Prop) (good : D → Prop) (hs : Sat (s env h) fun s h1 => h1 = h ∧ s.1 = xs ∧ s.2 h) (h0 : I env) (ht : ∀ x ∈ xs, ∀ e, I e → ∃ e1, g x e h = some e1 ∧ SatS (b e1 h) ⟨fun e2 h2 => h2 = h ∧ I e2 ∧ good x, Q.r, Q.n, fun e2 h2 => h2 = h ∧ I e2 ∧ good x⟩)
    (he : ∀ e, I e → (∀ x ∈ xs, good x) → Q.n e h) : SatS (mFor s g b env h) Q := by
  refine s_forI (fun pre post e h1 => h1 = h ∧ I e ∧ ∀ x ∈ pre, good x) (hs.mono fun s1 h1 z => ?_)
  obtain ⟨rfl, rfl, hg⟩ := z
  refine ⟨⟨rfl, h0, by simp⟩, fun _ _ _ h2 _ z => by rw [z.1]; exact hg, ?_, ?_⟩
  · rintro pre x post e h2 hx ⟨rfl, i, hp⟩
    have hm : x ∈ s1.1 := by rw [hx]; simp
    obtain ⟨e1, q1, q2⟩ := ht x hm e i
    refine ⟨e1, q1, q2.mono (fun e2 h2 z => ?_) (fun _ _ z => z) (fun _ _ z => z) (fun e2 h2 z => ?_)⟩
    all_goals
      obtain ⟨rfl, i2, z⟩ := z
      refine ⟨rfl, i2, fun y m => ?_⟩
      rcases List.mem_append.mp m with m | m
      · exact hp y m
      · rw [List.mem_singleton.mp m]
        exact z
  · rintro e h2 ⟨rfl, i, hp⟩
    exact he e i hp
/-- a for whose body may raise -/
theorem X.forI {s : MI} {g : MG} {b : MS} {F : EXS} (I : List D → List D → Env → Hap → Prop) (hs : Sat (s env h) fun s h1 => I [] s.1 env h1 ∧ (∀ pre post e h, s.1 = pre ++ post → I pre post e h → s.2 h) ∧
      (∀ pre x post e h, s.1 = pre ++ x :: post → I pre (x :: post) e h → ∃ e1, g x e h = some e1 ∧ SatSX (b e1 h) ⟨fun e h => I (pre ++ [x]) post e h, Q.r, Q.n, fun e h => I (pre ++ [x]) post e h⟩ F) ∧
      (∀ e h, I s.1 [] e h → Q.n e h)) : SatSX (mFor s g b env h) Q F := by
  unfold mFor
  obtain ⟨⟨xs, gd⟩, h1, e1, z⟩ := hs.ex
  rw [e1]
  obtain ⟨h0, hg, ht, he⟩ := z
  show SatSX (forL gd g b xs env h1) Q F
  have go : ∀ (post pre : List D) (e : Env) (h : Hap), xs = pre ++ post → I pre post e h → SatSX (forL gd g b post e h) Q F := by
    intro post
    induction post with
    | nil =>
      intro pre e h q i
      unfold forL
      rw [if_pos (hg pre [] e h q i)]
      rw [List.append_nil] at q
      subst q
      exact he e h i
    | cons x post ih =>
      intro pre e h q i
      unfold forL
      rw [if_pos (hg pre _ e h q i)]
      obtain ⟨e1, q1, t⟩ := ht pre x post e h q i
      rw [q1]
      show SatSX ((b e1 h).turn (forL gd g b post)) Q F
      revert t
      cases b e1 h with
      | nx e2 h2 => exact fun t => ih (pre ++ [x]) e2 h2 (by simpa using q) t
      | ct e2 h2 => exact fun t => ih (pre ++ [x]) e2 h2 (by simpa using q) t
      | bk e2 h2 => exact fun t => t
      | rt d h2 => exact fun t => t
      | er => exact fun t => t
      | stuck => exact fun t => t.elim
  exact go xs [] env h1 rfl h0
end
end Vi

set_option Elab.async false
set_option linter.all false
set_option autoImplicit false
set_option maxRecDepth 100000
set_option maxHeartbeats 1000000
namespace Vi
open PySem PySem.Spec PyProof.Rows L2
open scoped Classical
local macro_rules | `(tactic| walk_at "x1") => `(tactic| with_reducible first
  | refine x_bin ?_ | refine x_tst ?_ | refine x_oB ?_ | refine x_c ?_ | refine s_seqA ?_ | refine s_seqU ?_ | refine s_seqE ?_ | refine s_seqN ?_ | refine s_asg' ?_ | refine s_if' ?_ | refine s_ret' ?_ | refine s_exp' ?_ | refine s_next ?_ | refine s_retN' ?_ | refine s_sub' ?_
  | refine x_cb ?_ | refine x_cons ?_ | refine x_nil ?_ | refine x_call ?_ | refine x_met ?_ | refine x_un ?_ | refine x_notT ?_ | refine x_andT ?_ | refine x_orT ?_ | refine x_and ?_ | refine x_or ?_ | refine x_not ?_ | refine x_if ?_
  | refine x_tup ?_ | refine x_lst ?_ | refine x_cel ?_ | refine x_sl ?_ | refine x_noP ?_ | refine x_part ?_ | refine x_oI ?_ | refine x_mI ?_ | refine x_rng ?_ | refine x_yes ?_ | refine x_fun ?_ | refine x_ok ?_)
local macro_rules | `(tactic| walk_at "x2") => `(tactic| first
  | ((with_reducible refine y_var ?_); refine ⟨_, rfl, ?_⟩)
  | ((with_reducible refine y_some ?_); refine ⟨_, rfl, ?_⟩)
  | ((with_reducible refine y_gP ?_); refine ⟨_, rfl, ?_⟩))
local macro_rules | `(tactic| walk_at "x3") => `(tactic| first
  | ((with_reducible refine v_mod ?_ ?_); (first | decide | omega))
  | ((with_reducible refine v_pow ?_ ?_); exact ⟨by decide, by decide, by decide⟩))
local macro_rules | `(tactic| walk_at "x") => `(tactic| repeat (first | walk_at "x1" | walk_at "x2" | walk_at "x3" ))
/-! ### the drawing of numbers -/
def stc (a b c : Int) : Cel := .lst [.int a, .int b, .int c]
/-- the state of the draws stands in the first cell, t behind it -/
def St (t h : Hap) : Prop := ∃ a b c, h = stc a b c :: t ∧ 0 ≤ a ∧ 0 ≤ c ∧ c < 2147483647
abbrev scr (ns : List Int) : D := .klst (ns.map .int)
theorem next_ok {t h : Hap} {ns : List Int} {many : Int} (hs : St t h) (hm : 0 < many) (hm2 : many < 1000000) (hn : ns.length ≤ 63) : Sat (Mi.m_law_next [.ref 0, scr ns, .int many] h) fun d h' => ∃ r, d = .int r ∧ 0 ≤ r ∧ r < many ∧ St t h' := by
  obtain ⟨a, b, c, rfl, ha, hc, hc2⟩ := hs
  have hd : CDivN b many := ⟨by omega, by omega⟩
  have fm : ∀ i : Int, 0 ≤ i.fmod many ∧ i.fmod many < many := fun i => ⟨Int.fmod_nonneg_of_pos i hm, Int.fmod_lt_of_pos i hm⟩
  unfold Mi.m_law_next Mi.b_law_next
  walk_at "x"
  refine s_seq ?_
  walk_at "x"
  refine ⟨fun _ => ?_, fun _ => ?_⟩
  · walk_at "x"
    refine v_div hd ?_
    walk_at "x"
    refine ⟨_, rfl, ?_⟩
    walk_at "x"
    exact ⟨_, rfl, (fm b).1, (fm b).2, a, _, c, rfl, ha, hc, hc2⟩
  walk_at "x"
  refine s_cut (fun e h => ∃ cell : Int, e = [some (.ref 0), some (scr ns), some (.int many), none, some (.int cell)] ∧ h = stc a b c :: t ∧ 0 ≤ cell) ?_ ?_
  · walk_at "x"
    refine ⟨fun e => ?_, fun _ => ?_⟩
    · walk_at "x"
      have hl : a < (ns.map D.int).length := by simpa using e
      obtain ⟨d, e1, e2, _⟩ := atI_ok (xs := ns.map D.int) ha hl
      obtain ⟨v, _, rfl⟩ := List.mem_map.mp e2
      refine x_some (d := .int v) (by show atI _ a = _; exact e1) ?_
      walk_at "x"
      exact ⟨_, rfl, rfl, by split <;> omega⟩
    · walk_at "x"
      exact ⟨0, rfl, rfl, Int.le_refl _⟩
  rintro _ _ ⟨cell, rfl, rfl, h0⟩
  walk_at "x"
  refine ⟨_, rfl, ?_⟩
  refine s_seq ?_
  walk_at "x"
  refine ⟨fun _ => ?_, fun _ => ?_⟩
  · walk_at "x"
    refine v_div ⟨by omega, by omega⟩ ?_
    walk_at "x"
    refine ⟨_, rfl, ?_⟩
    walk_at "x"
    exact ⟨_, rfl, (fm cell).1, (fm cell).2, a + 1, _, c, rfl, by omega, hc, hc2⟩
  walk_at "x"
  refine v_mul (.inr ⟨by decide, by decide⟩) ?_
  walk_at "x"
  refine v_mul (.inr ⟨by decide, by decide⟩) ?_
  walk_at "x"
  refine ⟨_, rfl, ?_⟩
  walk_at "x"
  have f0 : ∀ i : Int, 0 ≤ i.fmod 2147483647 ∧ i.fmod 2147483647 < 2147483647 := fun i => ⟨Int.fmod_nonneg_of_pos i (by decide), Int.fmod_lt_of_pos i (by decide)⟩
  generalize hz : (c * 48271 + cell * 69621 + 12345).fmod 2147483647 = z
  have hz0 := f0 (c * 48271 + cell * 69621 + 12345)
  rw [hz] at hz0
  refine v_div ⟨by decide, by decide⟩ ?_
  walk_at "x"
  refine v_mul (.inl ⟨by omega, by omega⟩) ?_
  walk_at "x"
  refine v_div ⟨by decide, by decide⟩ ?_
  walk_at "x"
  exact ⟨_, rfl, (fm _).1, (fm _).2, a + 1, b, z, rfl, by omega, hz0.1, hz0.2⟩
theorem next_k {t h : Hap} {ns : List Int} {many : Int} {P : D → Hap → Prop} (hs : St t h) (hn : ns.length ≤ 63) (hm : 0 < many) (hm2 : many < 1000000) (k : ∀ r h', 0 ≤ r → r < many → St t h' → P (.int r) h') : Sat (Mi.m_law_next [.ref 0, scr ns, .int many] h) P :=
  (next_ok hs hm hm2 hn).mono fun d h' ⟨r, e, a, b, c⟩ => by
    subst e
    exact k r h' a b c
local macro_rules | `(tactic| walk_at "nx") => `(tactic| (refine next_k (by assumption) (by assumption) (by first | decide | omega) (by first | decide | omega) ?_))
theorem len_app (x y : Str) : (x ++ y).length = x.length + y.length := by
  show (x.cps ++ y.cps).size = _
  rw [Array.size_append]
  rfl
theorem len_ch (c : Nat) : (ch c).length = 1 := rfl
theorem len_list (z : Str) : z.cps.toList.length = z.length := Array.length_toList
theorem len_cutS (z : Str) (l u : Option Int) : (cutS z l u).length ≤ z.length := by
  show (List.toArray _).size ≤ _
  rw [List.size_toArray, List.length_take, List.length_drop, len_list]
  omega
theorem len_rep (z : Str) (n : Nat) : Str.length ⟨(List.replicate n z.cps.toList).flatten.toArray⟩ = n * z.length := by
  show (List.toArray _).size = _
  rw [List.size_toArray]
  induction n with
  | zero => simp
  | succ n ih => rw [List.replicate_succ, List.flatten_cons, List.length_append, ih, len_list, Nat.succ_mul, Nat.add_comm]
theorem len_join : ∀ (a : Str) (ys : List Str) (m : Nat), (∀ y ∈ ys, y.length ≤ m) → (ys.map (·.length)).sum + ys.length * a.length ≤ ys.length * (m + a.length) := by
  intro a ys m h
  induction ys with
  | nil => simp
  | cons y ys ih =>
    have h1 := h y List.mem_cons_self
    have h2 := ih fun z hz => h z (List.mem_cons_of_mem _ hz)
    simp only [List.map_cons, List.sum_cons, List.length_cons, Nat.succ_mul] at *
    omega
section
variable {t h : Hap} {ns : List Int}
theorem segment_ok (hs : St t h) (hn : ns.length ≤ 63) : Sat (Mi.m_law_segment [.ref 0, scr ns] h) fun d h' => ∃ z, d = .str z ∧ z.length ≤ 20 ∧ 1 ≤ z.length ∧ St t h' := by
  unfold Mi.m_law_segment Mi.b_law_segment
  walk_at "x"
  walk_at "nx"
  intro r0 h0 a0 b0 s0
  walk_at "x"
  refine s_cut (fun e h => ∃ size : Int, e = [some (.ref 0), some (scr ns), some (.str "abcdefghijklmnopqrstuvwxyz0123456789"), some (.str ("abcdefghijklmnopqrstuvwxyz0123456789" ++ "_-.")), some (.int size), none, none] ∧ 1 ≤ size ∧ size ≤ 20 ∧ St t h) ?_ ?_
  · walk_at "x"
    refine ⟨fun e => ?_, fun e => ?_⟩
    · walk_at "x"
      walk_at "nx"
      intro r1 h1 a1 b1 s1
      walk_at "x"
      exact ⟨_, rfl, by omega, by omega, s1⟩
    · walk_at "x"
      exact ⟨_, rfl, by omega, by omega, s0⟩
  rintro _ h1 ⟨size, rfl, q0, q1, s1⟩
  walk_at "x"
  walk_at "nx"
  intro r2 h2 a2 b2 s2
  obtain ⟨c, e1, _, _⟩ := atI_ok (xs := ("abcdefghijklmnopqrstuvwxyz0123456789" : Str).cps.toList) a2 (by rw [len_list]; exact b2)
  refine v_ixS (sl_le (by decide)) e1 ?_
  walk_at "x"
  refine s_seq (s_forI (fun pre post e h => ∃ z k, e = [some (.ref 0), some (scr ns), some (.str "abcdefghijklmnopqrstuvwxyz0123456789"), some (.str ("abcdefghijklmnopqrstuvwxyz0123456789" ++ "_-.")), some (.int size), some (.str z), k] ∧ z.length = 1 + pre.length ∧ St t h) ?_)
  walk_at "x"
  refine x_rng1 (by omega) ⟨⟨_, _, rfl, rfl, s2⟩, fun _ _ _ _ _ _ => trivial, ?_, ?_⟩
  · rintro pre x post e h3 hx ⟨z, k, rfl, hz, s3⟩
    have hl := congrArg List.length hx
    simp only [rngL, List.length_map, List.length_range, List.length_append, List.length_cons] at hl
    refine ⟨_, rfl, ?_⟩
    walk_at "x"
    walk_at "nx"
    intro r4 h4 a4 b4 s4
    obtain ⟨c, e1, _, _⟩ := atI_ok (xs := ("abcdefghijklmnopqrstuvwxyz0123456789" ++ "_-." : Str).cps.toList) a4 (by rw [len_list]; exact b4)
    refine v_ixS (sl_le (by decide)) e1 ?_
    refine v_adds (sl_le (by rw [len_ch]; omega)) ?_
    exact ⟨_, _, rfl, by rw [len_app, len_ch, hz, List.length_append, List.length_singleton]; omega, s4⟩
  · rintro e h3 ⟨z, k, rfl, hz, s3⟩
    have hl : (rngL 0 (size - 1).toNat).length = (size - 1).toNat := by simp [rngL]
    have hz : z.length = 1 + (rngL 0 (size - 1).toNat).length := hz
    walk_at "x"
    exact ⟨z, rfl, by omega, by omega, s3⟩
theorem part_ok (hs : St t h) (hn : ns.length ≤ 63) : Sat (Mi.m_law_part [.ref 0, scr ns] h) fun d h' => ∃ z, d = .str z ∧ z.length ≤ 20 ∧ 1 ≤ z.length ∧ St t h' := by
  unfold Mi.m_law_part Mi.b_law_part
  walk_at "x"
  walk_at "nx"
  intro r0 h0 a0 b0 s0
  refine s_seq ?_
  walk_at "x"
  refine ⟨fun e => ?_, fun e => ?_⟩
  · have e : r0 < 5 := by simpa using e
    walk_at "x"
    refine ⟨sl_le (by decide), ?_⟩
    walk_at "x"
    obtain ⟨d, e1, m, _⟩ := atI_ok (xs := [D.str "a", .str "b", .str "ab", .str "a.b", .str "build"]) a0 e
    refine x_some (d := d) e1 ?_
    simp only [List.mem_cons, List.not_mem_nil, or_false] at m
    rcases m with rfl | rfl | rfl | rfl | rfl
    all_goals exact ⟨_, rfl, by decide, by decide, s0⟩
  · walk_at "x"
    exact segment_ok s0 hn
theorem segment_k {P : D → Hap → Prop} (hs : St t h) (hn : ns.length ≤ 63) (k : ∀ z h', z.length ≤ 20 → 1 ≤ z.length → St t h' → P (.str z) h') : Sat (Mi.m_law_segment [.ref 0, scr ns] h) P :=
  (segment_ok hs hn).mono fun d h' ⟨z, e, a, b, c⟩ => by
    subst e
    exact k z h' a b c
theorem part_k {P : D → Hap → Prop} (hs : St t h) (hn : ns.length ≤ 63) (k : ∀ z h', z.length ≤ 20 → 1 ≤ z.length → St t h' → P (.str z) h') : Sat (Mi.m_law_part [.ref 0, scr ns] h) P :=
  (part_ok hs hn).mono fun d h' ⟨z, e, a, b, c⟩ => by
    subst e
    exact k z h' a b c
/-- "/".join of some parts -/
theorem parts_k {n : Nat} {env : Env} {P : D → Hap → Prop} {i : Nat} (hs : St t h) (hn : ns.length ≤ 63) (hn2 : n ≤ 1000) (e0 : (env.set i none)[0]? = some (some (.ref 0))) (e1 : (env.set i none)[1]? = some (some (scr ns))) (n0 : 0 ≠ i) (n1 : 1 ≠ i)
    (src : MI) (hsrc : ∀ P' : List D × (Hap → Prop) → Hap → Prop, P' (rngL 0 n, fun _ => True) h → Sat (src env h) P')
    (k : ∀ z h', z.length ≤ n * 21 → St t h' → P (.str z) h') : Sat (mComp src [i] (gNm i) mYes (mCall Mi.m_law_part (mCons (mVar 0) (mCons (mVar 1) mNil))) env h) fun d h1 => Sat (gP dJoin (.str "/") [d] h1) P := by
  refine x_compI (fun pre post h acc => ∃ ys : List Str, acc = ys.map .str ∧ ys.length = pre.length ∧ (∀ y ∈ ys, y.length ≤ 20) ∧ St t h) (hsrc _ ⟨⟨[], rfl, rfl, by simp, hs⟩, fun _ _ _ _ _ _ => trivial, ?_, ?_⟩)
  · rintro pre x post h1 acc hx ⟨ys, rfl, hl, hy, s1⟩
    have hq := congrArg List.length hx
    simp only [rngL, List.length_map, List.length_range, List.length_append, List.length_cons] at hq
    refine ⟨_, rfl, x_yes ⟨fun _ => ⟨?_, ?_⟩, fun z => nomatch z⟩⟩
    · rw [sizeLine_eq, List.length_map]; omega
    · refine x_call (x_cons (x_var (d := .ref 0) ?_ (x_cons (x_var (d := scr ns) ?_ (x_nil (part_k s1 hn ?_))))))
      · show ((env.set i none).set i _)[0]? = _
        rw [List.getElem?_set_ne (Ne.symm n0)]; exact e0
      · show ((env.set i none).set i _)[1]? = _
        rw [List.getElem?_set_ne (Ne.symm n1)]; exact e1
      · intro z h2 z1 z2 s2
        exact ⟨ys ++ [z], by simp, by simp [hl], fun y m => by
          simp only [List.mem_append, List.mem_singleton] at m
          rcases m with m | rfl
          · exact hy y m
          · exact z1, s2⟩
  · rintro h1 acc ⟨ys, rfl, hl, hy, s1⟩
    have hl : ys.length = (rngL 0 n).length := hl
    have hq : (rngL 0 n).length = n := by simp [rngL]
    have hj := len_join "/" ys 20 hy
    have h1' : Str.length "/" = 1 := by decide
    rw [h1'] at hj
    have hj2 := StrLaws.join_length_le "/" ys
    rw [h1'] at hj2
    refine v_join (ys := ys) rfl (by rw [h1']; omega) (k _ _ ?_ s1)
    show (Builtin.Str.glued "/" ys).length ≤ _
    rw [StrLaws.glued_eq_join]
    have : ys.length * (20 + 1) = n * 21 := by rw [hl, hq]
    omega
theorem path_k {P : D → Hap → Prop} (hs : St t h) (hn : ns.length ≤ 63) (k : ∀ z h', z.length ≤ 105 → St t h' → P (.str z) h') : Sat (Mi.m_law_path [.ref 0, scr ns] h) P := by
  unfold Mi.m_law_path Mi.b_law_path
  walk_at "x"
  walk_at "nx"
  intro r0 h0 a0 b0 s0
  walk_at "x"
  refine s_cut (fun e h => ∃ size : Int, e = [some (.ref 0), some (scr ns), some (.int size), none] ∧ 1 ≤ size ∧ size ≤ 5 ∧ St t h) ?_ ?_
  · walk_at "x"
    refine ⟨fun e => ?_, fun e => ?_⟩
    · walk_at "x"
      walk_at "nx"
      intro r1 h1 a1 b1 s1
      walk_at "x"
      exact ⟨_, rfl, by omega, by omega, s1⟩
    · walk_at "x"
      exact ⟨_, rfl, by omega, by omega, s0⟩
  rintro _ h1 ⟨size, rfl, q0, q1, s1⟩
  walk_at "x"
  refine ⟨rfl, ?_⟩
  walk_at "x"
  refine parts_k (n := size.toNat) s1 hn (by omega) rfl rfl (by decide) (by decide) _ (fun P' p => ?_) fun z h' q s => k z h' (by omega) s
  walk_at "x"
  exact x_rng1 (by omega) p
end
end Vi

set_option Elab.async false
set_option linter.all false
set_option autoImplicit false
set_option maxRecDepth 100000
set_option maxHeartbeats 2000000
namespace Vi
open PySem PySem.Spec PyProof.Rows L2
open scoped Classical
local macro_rules | `(tactic| walk_at "x1") => `(tactic| with_reducible first
  | refine x_bin ?_ | refine x_tst ?_ | refine x_oB ?_ | refine x_c ?_ | refine s_seqA ?_ | refine s_seqU ?_ | refine s_seqE ?_ | refine s_seqN ?_ | refine s_asg' ?_ | refine s_if' ?_ | refine s_ret' ?_ | refine s_exp' ?_ | refine s_next ?_ | refine s_retN' ?_ | refine s_sub' ?_
  | refine x_cb ?_ | refine x_cons ?_ | refine x_nil ?_ | refine x_call ?_ | refine x_met ?_ | refine x_un ?_ | refine x_notT ?_ | refine x_andT ?_ | refine x_orT ?_ | refine x_and ?_ | refine x_or ?_ | refine x_not ?_ | refine x_if ?_
  | refine x_tup ?_ | refine x_lst ?_ | refine x_cel ?_ | refine x_sl ?_ | refine x_noP ?_ | refine x_part ?_ | refine x_oI ?_ | refine x_mI ?_ | refine x_rng ?_ | refine x_yes ?_ | refine x_chn ?_ | refine x_fun ?_ | refine x_ok ?_)
local macro_rules | `(tactic| walk_at "x2") => `(tactic| first
  | ((with_reducible refine y_var ?_); refine ⟨_, rfl, ?_⟩)
  | ((with_reducible refine y_some ?_); refine ⟨_, rfl, ?_⟩)
  | ((with_reducible refine y_gP ?_); refine ⟨_, rfl, ?_⟩))
local macro_rules | `(tactic| walk_at "x") => `(tactic| repeat (first | walk_at "x1" | walk_at "x2" ))
local macro_rules | `(tactic| walk_at "nx") => `(tactic| (refine next_k (by assumption) (by assumption) (by first | decide | omega) (by first | decide | omega) ?_))

/-! ### data without lists, and `_law_same` of it -/
mutual
def D.sz : D → Nat
  | .tup xs => D.szs xs + 1
  | _ => 0
def D.szs : List D → Nat
  | [] => 0
  | d :: ds => max d.sz (D.szs ds)
end
mutual
def D.pl : D → Bool
  | .non => true
  | .bl _ => true
  | .int _ => true
  | .str _ => true
  | .tup xs => decide (xs.length ≤ 1000000) && D.pls xs
  | _ => false
def D.pls : List D → Bool
  | [] => true
  | d :: ds => d.pl && D.pls ds
end
theorem pls_at : ∀ {xs : List D} {k : Nat} {x : D}, D.pls xs = true → xs[k]? = some x → x.pl = true
  | d :: ds, 0, x, h, e => by
    simp at e
    subst e
    rw [D.pls] at h
    exact (Bool.and_eq_true_iff.mp h).1
  | d :: ds, k + 1, x, h, e => by
    rw [D.pls] at h
    exact pls_at (Bool.and_eq_true_iff.mp h).2 (by simpa using e)
theorem szs_at : ∀ {xs : List D} {k : Nat} {x : D}, xs[k]? = some x → x.sz ≤ D.szs xs
  | d :: ds, 0, x, e => by
    simp at e
    subst e
    rw [D.szs]
    omega
  | d :: ds, k + 1, x, e => by
    have := szs_at (xs := ds) (k := k) (x := x) (by simpa using e)
    rw [D.szs]
    omega
theorem at_nat {xs : List D} {k : Nat} {x : D} (e : xs[k]? = some x) : atI xs (0 + (k : Int)) = some x := by
  have hk := (List.getElem?_eq_some_iff.mp e).1
  obtain ⟨y, e1, _, e2⟩ := atI_ok (xs := xs) (i := 0 + (k : Int)) (by omega) (by omega)
  rw [e1, ← e2, ← e]
  congr 1
  omega
theorem same_all : ∀ (n : Nat) (a b : D) (h : Hap), b.sz < n → a.pl = true → b.pl = true → Sat (Mi.mm_law_same n [a, b] h) fun d h' => d = .bl (decide (a = b)) ∧ h' = h
  | 0, _, _, _, hn, _, _ => absurd hn (by omega)
  | n + 1, a, b, h, hn, ha, hb => by
    have tyA : ∃ t, tyD a h = some t := by
      cases a <;> first | exact ⟨_, rfl⟩ | (simp [D.pl] at ha)
    obtain ⟨ta, hta⟩ := tyA
    unfold Mi.mm_law_same Mi.b_law_same
    have isi : ∀ (T : String) (hT : T ∈ clNs) {P : D → Hap → Prop}, P (.bl (isiB ta T)) h → Sat (ofO (dIsi [a, .ty T] h) h) P := fun T hT P p => x_some (by
      show (if T ∈ clNs then (tyD a h).map (fun t => D.bl (isiB t T)) else none) = _
      rw [if_pos hT, hta]
      rfl) p
    cases b with
    | lst | klst | ref | ty => simp [D.pl] at hb
    | non =>
      walk_at "x"
      refine s_seq ?_
      walk_at "x"
      refine ⟨fun _ => ?_, fun e => nomatch e⟩
      walk_at "x"
      refine ⟨?_, rfl⟩
      cases a <;> simp [isN]
    | bl b =>
      walk_at "x"
      refine s_seq ?_
      walk_at "x"
      refine ⟨fun e => (nomatch e), fun _ => ?_⟩
      refine s_seq ?_
      walk_at "x"
      walk_at "x"
      refine ⟨fun e => (nomatch e), fun _ => ?_⟩
      refine s_seq ?_
      walk_at "x"
      walk_at "x"
      refine ⟨fun _ => ?_, fun e => nomatch e⟩
      walk_at "x"
      refine isi "bool" (by decide) ?_
      refine ⟨_, rfl, fun e => ?_, fun e => ?_⟩
      · walk_at "x"
        cases a <;> (first | (simp [D.pl] at ha; done) | skip) <;> simp [tyD] at hta <;> subst hta <;> first | exact absurd e (by decide) | skip
        next b' => exact x_some (d := .bl (decide (b' = b))) rfl ⟨by simp, rfl⟩
      · refine ⟨?_, rfl⟩
        cases a <;> (first | (simp [D.pl] at ha; done) | skip) <;> simp [tyD] at hta <;> subst hta <;> first | exact absurd e (by decide) | simp
    | int b =>
      walk_at "x"
      refine s_seq ?_
      walk_at "x"
      refine ⟨fun e => (nomatch e), fun _ => ?_⟩
      refine s_seq ?_
      walk_at "x"
      walk_at "x"
      refine ⟨fun e => (nomatch e), fun _ => ?_⟩
      refine s_seq ?_
      walk_at "x"
      walk_at "x"
      refine ⟨fun e => (nomatch e), fun _ => ?_⟩
      refine s_seq ?_
      walk_at "x"
      walk_at "x"
      refine ⟨fun _ => ?_, fun e => nomatch e⟩
      walk_at "x"
      refine isi "int" (by decide) ?_
      refine ⟨_, rfl, fun e => ?_, fun e => ?_⟩
      · walk_at "x"
        refine isi "bool" (by decide) ?_
        refine ⟨_, rfl, ?_⟩
        refine ⟨_, rfl, fun e2 => ?_, fun e2 => ?_⟩
        · walk_at "x"
          cases a <;> (first | (simp [D.pl] at ha; done) | skip) <;> simp [tyD] at hta <;> subst hta <;> first | exact absurd e (by decide) | exact absurd e2 (by decide) | skip
          next b' => exact x_some (d := .bl (decide (b' = b))) rfl ⟨by simp, rfl⟩
        · refine ⟨?_, rfl⟩
          cases a <;> (first | (simp [D.pl] at ha; done) | skip) <;> simp [tyD] at hta <;> subst hta <;> first | exact absurd e2 (by decide) | simp
      · refine ⟨?_, rfl⟩
        cases a <;> (first | (simp [D.pl] at ha; done) | skip) <;> simp [tyD] at hta <;> subst hta <;> first | exact absurd e (by decide) | simp
    | str b =>
      walk_at "x"
      refine s_seq ?_
      walk_at "x"
      refine ⟨fun e => (nomatch e), fun _ => ?_⟩
      refine s_seq ?_
      walk_at "x"
      walk_at "x"
      refine ⟨fun e => (nomatch e), fun _ => ?_⟩
      refine s_seq ?_
      walk_at "x"
      walk_at "x"
      refine ⟨fun e => (nomatch e), fun _ => ?_⟩
      refine s_seq ?_
      walk_at "x"
      walk_at "x"
      refine ⟨fun e => (nomatch e), fun _ => ?_⟩
      walk_at "x"
      refine isi "str" (by decide) ?_
      refine ⟨_, rfl, fun e => ?_, fun e => ?_⟩
      · walk_at "x"
        cases a <;> (first | (simp [D.pl] at ha; done) | skip) <;> simp [tyD] at hta <;> subst hta <;> first | exact absurd e (by decide) | skip
        next b' => exact x_some (d := .bl (decide (b' = b))) rfl ⟨by simp, rfl⟩
      · refine ⟨?_, rfl⟩
        cases a <;> (first | (simp [D.pl] at ha; done) | skip) <;> simp [tyD] at hta <;> subst hta <;> first | exact absurd e (by decide) | simp
    | tup ys =>
      walk_at "x"
      refine s_seq ?_
      walk_at "x"
      refine ⟨fun e => (nomatch e), fun _ => ?_⟩
      refine s_seq ?_
      walk_at "x"
      walk_at "x"
      refine ⟨fun _ => ?_, fun e => nomatch e⟩
      refine s_seq ?_
      walk_at "x"
      refine isi "tuple" (by decide) ?_
      walk_at "x"
      refine ⟨fun e => ?_, fun e => ?_⟩
      · refine ⟨fun _ => ?_, ?_⟩; rotate_left; (intro e; cases e)
        walk_at "x"
        refine ⟨?_, rfl⟩
        cases a <;> (first | (simp [D.pl] at ha; done) | skip) <;> simp [tyD] at hta <;> subst hta <;> first | exact absurd e (by decide) | simp
      · have hx : ∃ xs, a = .tup xs := by
          cases a <;> (first | (simp [D.pl] at ha; done) | skip) <;> simp [tyD] at hta <;> subst hta <;> first | exact absurd e (by decide) | exact ⟨_, rfl⟩
        obtain ⟨xs, rfl⟩ := hx
        clear isi hta
        rw [D.pl, Bool.and_eq_true_iff] at ha hb
        have hl : ys.length ≤ 1000000 := decide_eq_true_iff.mp hb.1
        walk_at "x"
        refine ⟨fun e2 => ?_, fun e2 => ?_⟩
        · walk_at "x"
          refine ⟨?_, rfl⟩
          have ne : xs.length ≠ ys.length := by
            have := of_decide_eq_true (p := (xs.length : Int) ≠ ys.length) (by simpa using e2)
            omega
          have : D.tup xs ≠ D.tup ys := fun z => ne (by rw [D.tup.inj z])
          simp [this]
        have el : xs.length = ys.length := by
          have := of_decide_eq_true (p := (xs.length : Int) = ys.length) (by simpa using e2)
          omega
        walk_at "x"
        dsimp only
        skip
        with_reducible refine s_seq ?_
        with_reducible refine s_forI (fun pre post e h' => h' = h ∧ (∃ z, e = [some (.tup xs), some (.tup ys), z]) ∧ pre.length + post.length = ys.length ∧ ∀ k, k < pre.length → xs[k]? = ys[k]?) ?_
        have go : ∀ {P : List D × (Hap → Prop) → Hap → Prop}, P (rngL 0 (ys.length : Int).toNat, fun _ => True) h → Sat (mRng rng1 (mCons (mCB dLen (mCons (mVar 1) mNil)) mNil) (env0 3 [.tup xs, .tup ys]) h) P := by
          intro P p
          have hl2 := hl
          clear hl ha hb hn el e2
          generalize hq : (ys.length : Int) = q at p
          have q0 : (0 : Int) ≤ q ∧ q ≤ 1000000 := ⟨by omega, by omega⟩
          have dl : dLen [.tup ys] h = some (.int q) := by
            rw [← hq]
            rfl
          with_reducible refine x_rng ?_
          with_reducible refine x_cons ?_
          with_reducible refine x_cb ?_
          with_reducible refine x_cons ?_
          with_reducible refine y_var ?_
          refine ⟨_, rfl, ?_⟩
          with_reducible refine x_nil ?_
          with_reducible refine x_some dl ?_
          with_reducible refine x_nil ?_
          with_reducible exact x_rng1 (by omega) p
        have lr : (rngL 0 (ys.length : Int).toNat).length = ys.length := by simp [rngL]
        with_reducible refine go ?_
        refine ⟨⟨rfl, ⟨_, rfl⟩, by rw [List.length_nil, lr]; omega, fun k hk => absurd hk (by simp)⟩, fun _ _ _ _ _ _ => trivial, ?_, ?_⟩
        · rintro pre x post e h2 hx ⟨rfl, ⟨z, rfl⟩, hlen, hk⟩
          rw [List.length_cons] at hlen
          have hp : pre.length < ys.length := by omega
          have ex : x = .int (0 + (pre.length : Int)) := by
            have hx2 : rngL 0 (ys.length : Int).toNat = pre ++ x :: post := hx
            have q : (rngL 0 (ys.length : Int).toNat)[pre.length]? = some x := by rw [hx2]; simp
            have q2 : (rngL 0 (ys.length : Int).toNat)[pre.length]? = some (.int (0 + (pre.length : Int))) := by simp [rngL, hp]
            exact Option.some.inj (q.symm.trans q2)
          subst ex
          obtain ⟨u, hu⟩ : ∃ u, xs[pre.length]? = some u := ⟨_, List.getElem?_eq_getElem (by omega)⟩
          obtain ⟨v, hv⟩ : ∃ v, ys[pre.length]? = some v := ⟨_, List.getElem?_eq_getElem hp⟩
          refine ⟨_, rfl, ?_⟩
          walk_at "x"
          refine x_some (d := u) (at_nat hu) ?_
          walk_at "x"
          refine x_some (d := v) (at_nat hv) ?_
          walk_at "x"
          have sv := szs_at hv
          have hsz : (D.tup ys).sz = D.szs ys + 1 := by simp [D.sz]
          refine (same_all n u v h2 (by omega) (pls_at ha.2 hu) (pls_at hb.2 hv)).mono fun d h3 z => ?_
          obtain ⟨rfl, rfl⟩ := z
          walk_at "x"
          refine ⟨fun e3 => ?_, fun e3 => ?_⟩
          · walk_at "x"
            have ne : u ≠ v := by simpa using e3
            refine ⟨?_, rfl⟩
            have : D.tup xs ≠ D.tup ys := fun z => ne (by
              rw [D.tup.inj z] at hu
              rw [hu] at hv
              exact Option.some.inj hv)
            simp [this]
          · have eq : u = v := by simpa using e3
            refine ⟨rfl, ⟨_, rfl⟩, by rw [List.length_append, List.length_singleton]; omega, fun k hk2 => ?_⟩
            rw [List.length_append, List.length_singleton] at hk2
            by_cases hkk : k < pre.length
            · exact hk k hkk
            · have : k = pre.length := by omega
              rw [this, hu, hv, eq]
        · rintro e h2 ⟨rfl, ⟨z, rfl⟩, _, hk⟩
          walk_at "x"
          refine ⟨?_, rfl⟩
          have : xs = ys := List.ext_getElem? fun k => by
            by_cases hk2 : k < ys.length
            · exact hk k (by rw [lr]; exact hk2)
            · rw [List.getElem?_eq_none (by omega), List.getElem?_eq_none (by omega)]
          rw [this]
          simp
theorem same_k {a b : D} {h : Hap} {P : D → Hap → Prop} (hs : b.sz < 12) (ha : a.pl = true) (hb : b.pl = true) (k : P (.bl (decide (a = b))) h) : Sat (Mi.m_law_same [a, b] h) P :=
  (same_all 12 a b h hs ha hb).mono fun d h' ⟨e1, e2⟩ => by
    subst e1 e2
    exact k
end Vi

set_option Elab.async false
set_option linter.all false
set_option autoImplicit false
set_option maxRecDepth 100000
set_option maxHeartbeats 2000000
namespace Vi
open PySem PySem.Spec PyProof.Rows L2
open scoped Classical
local macro_rules | `(tactic| walk_at "x1") => `(tactic| with_reducible first
  | refine x_bin ?_ | refine x_tst ?_ | refine x_oB ?_ | refine x_c ?_ | refine s_seqA ?_ | refine s_seqU ?_ | refine s_seqE ?_ | refine s_seqN ?_ | refine s_asg' ?_ | refine s_if' ?_ | refine s_ret' ?_ | refine s_exp' ?_ | refine s_next ?_ | refine s_retN' ?_ | refine s_sub' ?_
  | refine x_cb ?_ | refine x_cons ?_ | refine x_nil ?_ | refine x_call ?_ | refine x_met ?_ | refine x_un ?_ | refine x_notT ?_ | refine x_andT ?_ | refine x_orT ?_ | refine x_and ?_ | refine x_or ?_ | refine x_not ?_ | refine x_if ?_
  | refine x_tup ?_ | refine x_lst ?_ | refine x_cel ?_ | refine x_sl ?_ | refine x_noP ?_ | refine x_part ?_ | refine x_oI ?_ | refine x_mI ?_ | refine x_rng ?_ | refine x_yes ?_ | refine x_chn ?_ | refine x_fun ?_ | refine x_ok ?_)
local macro_rules | `(tactic| walk_at "x2") => `(tactic| first
  | ((with_reducible refine y_var ?_); refine ⟨_, rfl, ?_⟩)
  | ((with_reducible refine y_some ?_); refine ⟨_, rfl, ?_⟩)
  | ((with_reducible refine y_gP ?_); refine ⟨_, rfl, ?_⟩))
local macro_rules | `(tactic| walk_at "x") => `(tactic| repeat (first | walk_at "x1" | walk_at "x2" ))
local macro_rules | `(tactic| walk_at "nx") => `(tactic| (refine next_k (by assumption) (by assumption) (by first | decide | omega) (by first | decide | omega) ?_))
/-! ### cuts -/
theorem cut_to {a b : Str} : cutS (a ++ b) none (some (a.length : Int)) = a := TL.ext_tl (by
  have hl : (a ++ b).length = a.length + b.length := len_app a b
  show ((a ++ b).cps.toList.drop (HT.sIx (a ++ b).length 0 none)).take (HT.sIx (a ++ b).length (a ++ b).length (some (a.length : Int)) - HT.sIx (a ++ b).length 0 none) = _
  rw [HT.sIx_none, HT.sIx_nat, hl]
  have e : (a ++ b).cps.toList = TL.tl a ++ TL.tl b := TL.tl_append a b
  rw [e, List.drop_zero, TL.len_tl a, TL.len_tl b]
  rw [show min (TL.tl a).length ((TL.tl a).length + (TL.tl b).length) - 0 = (TL.tl a).length by omega]
  exact List.take_left)
theorem cut_from {a b : Str} {n : Nat} (hn : n = a.length) : cutS (a ++ b) (some (n : Int)) none = b := TL.ext_tl (by
  subst hn
  have hl : (a ++ b).length = a.length + b.length := len_app a b
  show ((a ++ b).cps.toList.drop (HT.sIx (a ++ b).length 0 (some (a.length : Int)))).take (HT.sIx (a ++ b).length (a ++ b).length none - HT.sIx (a ++ b).length 0 (some (a.length : Int))) = _
  rw [HT.sIx_none, HT.sIx_nat, hl]
  have e : (a ++ b).cps.toList = TL.tl a ++ TL.tl b := TL.tl_append a b
  rw [e, TL.len_tl a, TL.len_tl b]
  rw [show min (TL.tl a).length ((TL.tl a).length + (TL.tl b).length) = (TL.tl a).length by omega, List.drop_left]
  rw [List.take_of_length_le (by omega)])
end Vi

set_option Elab.async false
set_option linter.all false
set_option autoImplicit false
set_option maxRecDepth 100000
set_option maxHeartbeats 1000000
namespace Vi
open PySem PySem.Spec PyProof.Rows L2
open scoped Classical
local macro_rules | `(tactic| walk_at "x1") => `(tactic| with_reducible first
  | refine x_bin ?_ | refine x_tst ?_ | refine x_oB ?_ | refine x_c ?_ | refine s_seqA ?_ | refine s_seqU ?_ | refine s_seqE ?_ | refine s_seqN ?_ | refine s_asg' ?_ | refine s_if' ?_ | refine s_ret' ?_ | refine s_exp' ?_ | refine s_next ?_ | refine s_retN' ?_ | refine s_sub' ?_
  | refine x_cb ?_ | refine x_cons ?_ | refine x_nil ?_ | refine x_call ?_ | refine x_met ?_ | refine x_un ?_ | refine x_notT ?_ | refine x_andT ?_ | refine x_orT ?_ | refine x_and ?_ | refine x_or ?_ | refine x_not ?_ | refine x_if ?_
  | refine x_tup ?_ | refine x_lst ?_ | refine x_cel ?_ | refine x_sl ?_ | refine x_noP ?_ | refine x_part ?_ | refine x_oI ?_ | refine x_mI ?_ | refine x_rng ?_ | refine x_yes ?_ | refine x_fun ?_ | refine x_ok ?_)
local macro_rules | `(tactic| walk_at "x2") => `(tactic| first
  | ((with_reducible refine y_var ?_); refine ⟨_, rfl, ?_⟩)
  | ((with_reducible refine y_some ?_); refine ⟨_, rfl, ?_⟩)
  | ((with_reducible refine y_gP ?_); refine ⟨_, rfl, ?_⟩))
local macro_rules | `(tactic| walk_at "x") => `(tactic| repeat (first | walk_at "x1" | walk_at "x2" ))
local macro_rules | `(tactic| walk_at "nx") => `(tactic| (refine next_k (by assumption) (by assumption) (by first | decide | omega) (by first | decide | omega) ?_))
/-! ### segments and paths: what both answer -/
def segB (z : Str) : Bool := decide (1 ≤ z.length) && decide (z.length ≤ 20) && decide (z.cps[0]! ∈ ("abcdefghijklmnopqrstuvwxyz0123456789" : Str).cps.toList) && z.cps.toList.all fun c => decide (c ∈ ("abcdefghijklmnopqrstuvwxyz0123456789_-." : Str).cps.toList)
def pathB (z : Str) : Bool := decide ((Txt.split z "/").length < 6) && (Txt.split z "/").all segB
theorem empty_iff (z : Str) : z = "" ↔ z.length = 0 := by
  constructor
  · rintro rfl
    decide
  · intro h
    obtain ⟨cs⟩ := z
    have e : cs = #[] := Array.eq_empty_of_size_eq_zero h
    subst e
    decide
section
variable {h : Hap} {P : D → Hap → Prop}
theorem at0 {z : Str} (h1 : 1 ≤ z.length) : atI z.cps.toList 0 = some (z.cps[0]!) := by
  obtain ⟨cs⟩ := z
  have h1 : 1 ≤ cs.size := h1
  unfold atI ixN
  rw [if_pos (Int.le_refl 0), if_pos (by rw [Array.length_toList]; show (0 : Int) < cs.size; omega)]
  show cs.toList[0]? = _
  rw [Array.getElem?_toList]
  simp [show 0 < cs.size by omega]
theorem is_segment_k {z : Str} (hl : z.length ≤ 1000000) (k : P (.bl (segB z)) h) : Sat (Mi.m_is_segment [.str z] h) P := by
  unfold Mi.m_is_segment Mi.b_is_segment
  walk_at "x"
  refine s_seq ?_
  walk_at "x"
  have fin : segB z = false → P (.bl false) h := fun e => by rw [← e]; exact k
  refine ⟨fun e => ?_, fun e => ?_⟩
  · walk_at "x"
    refine ⟨fun _ => ?_, fun z => nomatch z⟩
    walk_at "x"
    refine fin ?_
    have e : z = "" := by simpa using e
    subst e
    decide +kernel
  have e : ¬ z = "" := by simpa using e
  have h1 : 1 ≤ z.length := by
    rcases Nat.eq_zero_or_pos z.length with q | q
    · exact absurd ((empty_iff z).mpr q) e
    · exact q
  walk_at "x"
  refine v_lens (sl_le (by omega)) ?_
  walk_at "x"
  refine ⟨fun e => ?_, fun e => ?_⟩
  · walk_at "x"
    refine fin ?_
    have e : ¬ z.length ≤ 20 := by simp at e; omega
    unfold segB
    rw [decide_eq_false e, Bool.and_false, Bool.false_and, Bool.false_and]
  have h2 : z.length ≤ 20 := by simp at e; omega
  walk_at "x"
  refine s_seq ?_
  walk_at "x"
  refine v_ixS (sl_le (by omega)) (at0 h1) ?_
  walk_at "x"
  refine ⟨fun e => ?_, fun e => ?_⟩
  · walk_at "x"
    refine fin ?_
    have e : (!decide (z.cps[0]! ∈ ("abcdefghijklmnopqrstuvwxyz0123456789" : Str).cps.toList)) = true := e
    have e : ¬ z.cps[0]! ∈ ("abcdefghijklmnopqrstuvwxyz0123456789" : Str).cps.toList := by simpa using e
    unfold segB
    rw [decide_eq_false e, Bool.and_false, Bool.false_and]
  have e : (!decide (z.cps[0]! ∈ ("abcdefghijklmnopqrstuvwxyz0123456789" : Str).cps.toList)) = false := e
  have h3 : z.cps[0]! ∈ ("abcdefghijklmnopqrstuvwxyz0123456789" : Str).cps.toList := by simpa using e
  walk_at "x"
  refine x_compI (fun pre post h' acc => h' = h ∧ ∃ cs : List Nat, pre = cs.map (fun c => .str (ch c)) ∧ acc = cs.map fun c => .bl (decide (c ∈ ("abcdefghijklmnopqrstuvwxyz0123456789_-." : Str).cps.toList))) ?_
  walk_at "x"
  refine ⟨_, rfl, ⟨rfl, [], rfl, rfl⟩, fun _ _ _ _ _ _ => rfl, ?_, ?_⟩
  · rintro pre x post _ acc hx ⟨rfl, cs, rfl, rfl⟩
    have hm : x ∈ z.cps.toList.map (fun c => D.str (ch c)) := by
      have hx : z.cps.toList.map (fun c => D.str (ch c)) = _ := hx
      rw [hx]
      simp
    obtain ⟨c, _, rfl⟩ := List.mem_map.mp hm
    have hq := congrArg List.length hx
    have hq : z.cps.toList.length = cs.length + (post.length + 1) := by simpa using hq
    rw [len_list] at hq
    refine ⟨_, rfl, ?_⟩
    walk_at "x"
    refine ⟨fun _ => ⟨by rw [sizeLine_eq, List.length_map]; omega, ?_⟩, fun z => nomatch z⟩
    walk_at "x"
    exact ⟨rfl, cs ++ [c], by simp, by rw [List.map_append]; rfl⟩
  · rintro _ acc ⟨rfl, cs, hcs, rfl⟩
    have hcs : z.cps.toList.map (fun c => D.str (ch c)) = cs.map (fun c => D.str (ch c)) := hcs
    have e : z.cps.toList = cs := by
      have inj : ∀ a b : List Nat, a.map (fun c => D.str (ch c)) = b.map (fun c => D.str (ch c)) → a = b := by
        intro a
        induction a with
        | nil => intro b e; cases b with
          | nil => rfl
          | cons b bs => cases e
        | cons a as ih =>
          intro b e
          cases b with
          | nil => cases e
          | cons b bs =>
            rw [List.map_cons, List.map_cons] at e
            injection e with e1 e2
            injection e1 with e1
            injection e1 with e1
            have e3 : a = b := by simpa using e1
            rw [e3, ih bs e2]
      exact inj _ _ hcs
    subst e
    walk_at "x"
    refine v_all (bs := z.cps.toList.map fun c => decide (c ∈ ("abcdefghijklmnopqrstuvwxyz0123456789_-." : Str).cps.toList)) (by simp [getL, List.map_map, Function.comp_def]) ?_
    have q : segB z = (z.cps.toList.map fun c => decide (c ∈ ("abcdefghijklmnopqrstuvwxyz0123456789_-." : Str).cps.toList)).all id := by
      unfold segB
      rw [decide_eq_true h1, decide_eq_true h2, decide_eq_true h3, List.all_map]
      rfl
    rw [q] at k
    exact k
theorem law_is_segment_k {z : Str} (hl : z.length ≤ 1000000) (k : P (.bl (segB z)) h) : Sat (Mi.m_law_is_segment [.str z] h) P := by
  unfold Mi.m_law_is_segment Mi.b_law_is_segment
  have fin : segB z = false → P (.bl false) h := fun e => by rw [← e]; exact k
  walk_at "x"
  refine s_seq ?_
  walk_at "x"
  refine v_lens (sl_le (by omega)) ?_
  walk_at "x"
  refine ⟨fun e => ?_, fun e => ?_⟩
  · refine ⟨fun _ => ?_, fun z => nomatch z⟩
    walk_at "x"
    refine fin ?_
    have e : ¬ 1 ≤ z.length := by simp at e; omega
    unfold segB
    rw [decide_eq_false e, Bool.false_and, Bool.false_and, Bool.false_and]
  have h1 : 1 ≤ z.length := by simp at e; omega
  walk_at "x"
  refine v_lens (sl_le (by omega)) ?_
  walk_at "x"
  refine ⟨fun e => ?_, fun e => ?_⟩
  · refine ⟨fun _ => ?_, fun z => nomatch z⟩
    walk_at "x"
    refine fin ?_
    have e : ¬ z.length ≤ 20 := by simp at e; omega
    unfold segB
    rw [decide_eq_false e, Bool.and_false, Bool.false_and, Bool.false_and]
  have h2 : z.length ≤ 20 := by simp at e; omega
  walk_at "x"
  refine v_ixS (sl_le (by omega)) (at0 h1) ?_
  walk_at "x"
  refine ⟨fun e => ?_, fun e => ?_⟩
  · walk_at "x"
    refine fin ?_
    have e : (!decide (z.cps[0]! ∈ ("abcdefghijklmnopqrstuvwxyz0123456789" : Str).cps.toList)) = true := e
    have e : ¬ z.cps[0]! ∈ ("abcdefghijklmnopqrstuvwxyz0123456789" : Str).cps.toList := by simpa using e
    unfold segB
    rw [decide_eq_false e, Bool.and_false, Bool.false_and]
  have e : (!decide (z.cps[0]! ∈ ("abcdefghijklmnopqrstuvwxyz0123456789" : Str).cps.toList)) = false := e
  have h3 : z.cps[0]! ∈ ("abcdefghijklmnopqrstuvwxyz0123456789" : Str).cps.toList := by simpa using e
  walk_at "x"
  have q : segB z = z.cps.toList.all fun c => decide (c ∈ ("abcdefghijklmnopqrstuvwxyz0123456789_-." : Str).cps.toList) := by
    unfold segB
    rw [decide_eq_true h1, decide_eq_true h2, decide_eq_true h3]
    rfl
  refine s_seq (s_forI (fun pre post e h' => h' = h ∧ ∃ (cs : List Nat) (x : Option D), e = [some (.str z), some (.str "abcdefghijklmnopqrstuvwxyz0123456789"), x] ∧ pre = cs.map (fun c => .str (ch c)) ∧ ∀ c ∈ cs, c ∈ ("abcdefghijklmnopqrstuvwxyz0123456789_-." : Str).cps.toList) ?_)
  walk_at "x"
  refine ⟨_, rfl, ⟨rfl, [], _, rfl, rfl, by simp⟩, fun _ _ _ _ _ _ => rfl, ?_, ?_⟩
  · rintro pre x post e _ hx ⟨rfl, cs, xo, rfl, rfl, hc⟩
    have hx : z.cps.toList.map (fun c => D.str (ch c)) = cs.map (fun c => D.str (ch c)) ++ x :: post := hx
    have hm : x ∈ z.cps.toList.map (fun c => D.str (ch c)) := by
      rw [hx]
      simp
    obtain ⟨c, hcz, rfl⟩ := List.mem_map.mp hm
    refine ⟨_, rfl, ?_⟩
    walk_at "x"
    refine ⟨fun e => ?_, fun e => ?_⟩
    · walk_at "x"
      refine fin ?_
      have e : (!decide (c ∈ ("abcdefghijklmnopqrstuvwxyz0123456789_-." : Str).cps.toList)) = true := e
      have e : ¬ c ∈ ("abcdefghijklmnopqrstuvwxyz0123456789_-." : Str).cps.toList := by simpa using e
      rw [q, List.all_eq_false]
      exact ⟨c, hcz, by rw [decide_eq_false e]; exact fun z => nomatch z⟩
    · have e : (!decide (c ∈ ("abcdefghijklmnopqrstuvwxyz0123456789_-." : Str).cps.toList)) = false := e
      have e : c ∈ ("abcdefghijklmnopqrstuvwxyz0123456789_-." : Str).cps.toList := by simpa using e
      walk_at "x"
      refine ⟨rfl, cs ++ [c], _, rfl, by simp, fun y m => ?_⟩
      simp only [List.mem_append, List.mem_singleton] at m
      rcases m with m | rfl
      · exact hc y m
      · exact e
  · rintro e _ ⟨rfl, cs, xo, rfl, hcs, hc⟩
    have hcs : z.cps.toList.map (fun c => D.str (ch c)) = cs.map (fun c => D.str (ch c)) := hcs
    walk_at "x"
    have : segB z = true := by
      rw [q, List.all_eq_true]
      intro c m
      have m2 : D.str (ch c) ∈ z.cps.toList.map (fun c => D.str (ch c)) := List.mem_map.mpr ⟨c, m, rfl⟩
      rw [hcs] at m2
      obtain ⟨c', m3, e⟩ := List.mem_map.mp m2
      injection e with e
      injection e with e
      have : c' = c := by simpa using e
      rw [← this]
      exact decide_eq_true (hc c' m3)
    rw [this] at k
    exact k
/-- the parts of a text are no longer than it -/
theorem spl_len (S : List Nat) : ∀ (l : List Nat) (k : Nat) (acc : List Nat), ∀ p ∈ TL.spl S k acc l, p.length ≤ acc.length + l.length
  | [], k, acc, p, m => by
    have m : p ∈ [acc] := by cases k <;> exact m
    simp at m
    subst m
    omega
  | c :: r, 0, acc, p, m => by
    unfold TL.spl at m
    split at m
    · rcases List.mem_cons.mp m with rfl | m
      · omega
      · have := spl_len S r _ [] p m
        simp at this ⊢
        omega
    · have := spl_len S r _ _ p m
      simp at this ⊢
      omega
  | c :: r, k + 1, acc, p, m => by
    have := spl_len S r k acc p m
    simp
    omega
theorem split_len {z p : Str} (m : p ∈ Txt.split z "/") : p.length ≤ z.length := by
  have e := TL.split_spl z "/" (by decide) (TL.kind_ok (by decide +kernel))
  have m2 : TL.tl p ∈ (Txt.split z "/").map TL.tl := List.mem_map.mpr ⟨p, m, rfl⟩
  rw [e] at m2
  have := spl_len _ _ _ _ _ m2
  rw [TL.len_tl p, TL.len_tl z]
  simpa using this
theorem spl_count (S : List Nat) : ∀ (l : List Nat) (k : Nat) (acc : List Nat), (TL.spl S k acc l).length ≤ l.length + 1
  | [], k, acc => by cases k <;> exact Nat.le_refl _
  | c :: r, 0, acc => by
    unfold TL.spl
    split
    · have := spl_count S r (S.length - 1) []
      simp
      omega
    · have := spl_count S r 0 (acc ++ [c])
      simp
      omega
  | c :: r, k + 1, acc => by
    have := spl_count S r k acc
    simp
    exact Nat.le_succ_of_le this
theorem split_count (z : Str) : (Txt.split z "/").length ≤ z.length + 1 := by
  have e := congrArg List.length (TL.split_spl z "/" (by decide) (TL.kind_ok (by decide +kernel)))
  rw [List.length_map] at e
  have := spl_count (TL.tl "/") (TL.tl z) 0 []
  rw [TL.len_tl z]
  omega
theorem is_path_k {z : Str} (hl : z.length ≤ 1000000) (k : P (.bl (pathB z)) h) : Sat (Mi.m_is_path [.str z] h) P := by
  have hc := split_count z
  have hp := fun p => @split_len z p
  unfold Mi.m_is_path Mi.b_is_path
  walk_at "x"
  refine ⟨rfl, ?_⟩
  walk_at "x"
  refine v_split ⟨by decide, by rw [sizeLine_eq]; omega⟩ ?_
  generalize hw : Txt.split z "/" = ps at *
  have hB : pathB z = (decide (ps.length < 6) && ps.all segB) := by unfold pathB; rw [hw]
  refine s_seq ?_
  walk_at "x"
  rw [List.length_map]
  refine ⟨fun e => ?_, fun e => ?_⟩
  · walk_at "x"
    have e : ¬ ps.length < 6 := by simp at e; omega
    rw [hB, decide_eq_false e] at k
    exact k
  have e : ps.length < 6 := by simp at e; omega
  walk_at "x"
  refine x_compI (fun pre post h' acc => h' = h ∧ ∃ qs : List Str, pre = qs.map .str ∧ acc = qs.map fun p => .bl (segB p)) ?_
  walk_at "x"
  refine ⟨_, rfl, ⟨rfl, [], rfl, rfl⟩, fun _ _ _ _ _ _ => rfl, ?_, ?_⟩
  · rintro pre x post _ acc hx ⟨rfl, qs, rfl, rfl⟩
    have hx : ps.map D.str = qs.map .str ++ x :: post := hx
    have hm : x ∈ ps.map D.str := by
      rw [hx]
      simp
    have hq := congrArg List.length hx
    simp only [List.length_map, List.length_append, List.length_cons] at hq
    obtain ⟨p, m, rfl⟩ := List.mem_map.mp hm
    refine ⟨_, rfl, ?_⟩
    walk_at "x"
    refine ⟨fun _ => ⟨by rw [sizeLine_eq, List.length_map]; omega, ?_⟩, fun z => nomatch z⟩
    walk_at "x"
    refine is_segment_k (by have := hp p m; omega) ?_
    exact ⟨rfl, qs ++ [p], by simp, by simp⟩
  · rintro _ acc ⟨rfl, qs, hqs, rfl⟩
    have hqs : ps.map D.str = qs.map .str := hqs
    have e2 : ps = qs := by
      have inj : Function.Injective D.str := fun a b e => by injection e
      exact (List.map_inj_right (fun a b e => inj e)).mp hqs
    subst e2
    walk_at "x"
    refine v_all (bs := ps.map segB) (by simp [getL, List.map_map, Function.comp_def]) ?_
    rw [hB, decide_eq_true e] at k
    rw [List.all_map]
    exact k
theorem law_is_path_k {z : Str} (hl : z.length ≤ 1000000) (k : P (.bl (pathB z)) h) : Sat (Mi.m_law_is_path [.str z] h) P := by
  have hc := split_count z
  have hp := fun p => @split_len z p
  unfold Mi.m_law_is_path Mi.b_law_is_path
  walk_at "x"
  refine ⟨rfl, ?_⟩
  walk_at "x"
  refine v_split ⟨by decide, by rw [sizeLine_eq]; omega⟩ ?_
  generalize hw : Txt.split z "/" = ps at *
  have hB : pathB z = (decide (ps.length < 6) && ps.all segB) := by unfold pathB; rw [hw]
  walk_at "x"
  refine ⟨_, rfl, ?_⟩
  rw [List.length_map]
  refine ⟨fun e => ?_, fun e => ?_⟩
  rotate_left
  · have e : ¬ ps.length < 6 := by simp at e; omega
    rw [hB, decide_eq_false e] at k
    exact k
  have e : ps.length < 6 := by simp at e; omega
  walk_at "x"
  refine x_compI (fun pre post h' acc => h' = h ∧ ∃ qs : List Str, pre = qs.map .str ∧ acc = (qs.filter fun p => !segB p).map fun _ => .int 1) ?_
  walk_at "x"
  refine ⟨_, rfl, ⟨rfl, [], rfl, rfl⟩, fun _ _ _ _ _ _ => rfl, ?_, ?_⟩
  · rintro pre x post _ acc hx ⟨rfl, qs, rfl, rfl⟩
    have hx : ps.map D.str = qs.map .str ++ x :: post := hx
    have hm : x ∈ ps.map D.str := by
      rw [hx]
      simp
    have hq := congrArg List.length hx
    simp only [List.length_map, List.length_append, List.length_cons] at hq
    obtain ⟨p, m, rfl⟩ := List.mem_map.mp hm
    refine ⟨_, rfl, ?_⟩
    walk_at "x"
    refine law_is_segment_k (by have := hp p m; omega) ?_
    walk_at "x"
    refine ⟨fun e => ⟨?_, ?_⟩, fun e => ?_⟩
    · have := List.length_filter_le (fun p => !segB p) qs
      rw [sizeLine_eq, List.length_map]
      omega
    · walk_at "x"
      exact ⟨rfl, qs ++ [p], by simp, by simp [List.filter_append, e]⟩
    · exact ⟨rfl, qs ++ [p], by simp, by simp [List.filter_append, e]⟩
  · rintro _ acc ⟨rfl, qs, hqs, rfl⟩
    have hqs : ps.map D.str = qs.map .str := hqs
    have e2 : ps = qs := by
      have inj : Function.Injective D.str := fun a b e => by injection e
      exact (List.map_inj_right (fun a b e => inj e)).mp hqs
    subst e2
    walk_at "x"
    rw [List.length_map]
    rw [hB, decide_eq_true e, Bool.true_and] at k
    have q : decide (((ps.filter fun p => !segB p).length : Int) = 0) = ps.all segB := by
      rw [Bool.eq_iff_iff, decide_eq_true_iff, List.all_eq_true]
      constructor
      · intro z p m
        have z : (ps.filter fun p => !segB p) = [] := List.length_eq_zero_iff.mp (by omega)
        have := List.filter_eq_nil_iff.mp z p m
        simpa using this
      · intro z
        have : (ps.filter fun p => !segB p) = [] := List.filter_eq_nil_iff.mpr fun p m => by simp [z p m]
        rw [this]
        rfl
    rw [q]
    exact k
theorem yes_k {a b : Bool} (k : P (.bl (a == b)) h) : Sat (Mi.m_law_yes [.bl a, .bl b] h) P := by
  unfold Mi.m_law_yes Mi.b_law_yes
  walk_at "x"
  refine ⟨true, rfl, fun _ => ?_, fun z => nomatch z⟩
  walk_at "x"
  have : decide (a = b) = (a == b) := by cases a <;> cases b <;> rfl
  rw [this]
  exact k
theorem is_folder_k {z : Str} (hl : z.length ≤ 1000000) (k : P (.bl (decide (z = "") || pathB z)) h) : Sat (Mi.m_is_folder [.str z] h) P := by
  unfold Mi.m_is_folder Mi.b_is_folder
  walk_at "x"
  refine ⟨_, rfl, fun e => ?_, fun e => ?_⟩
  · rw [e] at k
    exact k
  · rw [e] at k
    walk_at "x"
    exact is_path_k hl k
theorem starts_eq {x y : Str} : Txt.startswith x y = decide (cutS x none (some (y.length : Int)) = y) := by
  unfold Txt.startswith
  rw [StrLaws.subAt_eq, List.drop_zero]
  have e : cutS x none (some (y.length : Int)) = ⟨(x.cps.toList.take (min y.length x.length)).toArray⟩ := by
    unfold cutS
    rw [HT.sIx_none, HT.sIx_nat, List.drop_zero, Nat.sub_zero]
  rw [e, Bool.eq_iff_iff, decide_eq_true_iff, Bool.and_eq_true, decide_eq_true_iff]
  constructor
  · rintro ⟨h1, h2⟩
    have h2 : x.cps.toList.take y.length = y.cps.toList := by simpa using h2
    rw [Nat.min_eq_left (by omega), h2]
  · intro h1
    have h2 : x.cps.toList.take (min y.length x.length) = y.cps.toList := congrArg (fun s : Str => s.cps.toList) h1
    have h3 := congrArg List.length h2
    rw [List.length_take, len_list, len_list] at h3
    rw [Nat.min_eq_left (by omega)] at h2
    exact ⟨by omega, by rw [h2]; simp⟩
def liesB (p f : Str) : Bool := decide (f = "") || Txt.startswith p (f ++ "/")
theorem lies_in_k {p f : Str} (hl : f.length ≤ 1000000) (k : P (.bl (liesB p f)) h) : Sat (Mi.m_lies_in [.str p, .str f] h) P := by
  unfold Mi.m_lies_in Mi.b_lies_in
  unfold liesB at k
  walk_at "x"
  refine ⟨_, rfl, fun e => ?_, fun e => ?_⟩
  · rw [e] at k
    exact k
  · rw [e] at k
    walk_at "x"
    refine ⟨rfl, ?_⟩
    walk_at "x"
    refine v_adds (sl_le (by have : Str.length "/" = 1 := by decide
                             omega)) ?_
    walk_at "x"
    exact k
theorem law_lies_k {p f : Str} (hl : f.length ≤ 1000000) (hl2 : p.length ≤ 1000000) (k : P (.bl (liesB p f)) h) : Sat (Mi.m_law_lies [.str p, .str f] h) P := by
  have h1 : Str.length "/" = 1 := by decide
  unfold Mi.m_law_lies Mi.b_law_lies
  unfold liesB at k
  walk_at "x"
  refine ⟨_, rfl, fun e => ?_, fun e => ?_⟩
  · rw [e] at k
    exact k
  · rw [e] at k
    walk_at "x"
    refine v_lens (sl_le (by omega)) ?_
    walk_at "x"
    refine v_slS (sl_le (by omega)) ?_
    walk_at "x"
    refine v_adds (sl_le (by omega)) ?_
    walk_at "x"
    rw [starts_eq, len_app, h1] at k
    exact k
section
variable {t : Hap} {ns : List Int}
theorem char_k {r : Int} (r0 : 0 ≤ r) (r1 : r < 95) (k : ∀ c : Nat, P (.str (ch c)) h) : Sat (Mi.m_law_char [.int r] h) P := by
  unfold Mi.m_law_char Mi.b_law_char
  walk_at "x"
  obtain ⟨c, e1, _, _⟩ := atI_ok (xs := (" !\"#$&'()*+,-./0123456789:;<=>?@ABCDEFGHIJKLMNOPQRSTUVWXYZ[\\]^_`" ++ "abcdefghijklmnopqrstuvwxyz{|}~\n" : Str).cps.toList) r0 (by rw [len_list]; exact r1)
  exact v_ixS (sl_le (by decide)) e1 (k c)
theorem words_k (hs : St t h) (hn : ns.length ≤ 63) (k : ∀ z h', z.length ≤ 24 → St t h' → P (.str z) h') : Sat (Mi.m_law_words [.ref 0, scr ns] h) P := by
  unfold Mi.m_law_words Mi.b_law_words
  walk_at "x"
  refine s_seq (s_forI (fun pre post e h => ∃ z a b, e = [some (.ref 0), some (scr ns), some (.str z), a, b] ∧ z.length ≤ 4 * pre.length ∧ St t h) ?_)
  walk_at "x"
  walk_at "nx"
  intro r0 h0 a0 b0 s0
  walk_at "x"
  refine x_rng1 (by omega) ⟨⟨_, _, _, rfl, by decide, s0⟩, fun _ _ _ _ _ _ => trivial, ?_, ?_⟩
  · rintro pre x post e h3 hx ⟨z, a, b, rfl, hz, s3⟩
    have hl := congrArg List.length hx
    simp only [rngL, List.length_map, List.length_range, List.length_append, List.length_cons] at hl
    refine ⟨_, rfl, ?_⟩
    walk_at "x"
    walk_at "nx"
    intro r4 h4 a4 b4 s4
    walk_at "x"
    refine ⟨fun e => ?_, fun e => ?_⟩
    · have e : r4 < 6 := by simpa using e
      walk_at "x"
      refine ⟨sl_le (by decide), ?_⟩
      walk_at "x"
      obtain ⟨d, e1, m, _⟩ := atI_ok (xs := [D.str "a", .str "b", .str "ab", .str "\n", .str " ", .str "one\n"]) a4 e
      refine x_some (d := d) e1 ?_
      have : ∃ y : Str, d = .str y ∧ y.length ≤ 4 := by
        simp only [List.mem_cons, List.not_mem_nil, or_false] at m
        rcases m with rfl | rfl | rfl | rfl | rfl | rfl
        all_goals exact ⟨_, rfl, by decide⟩
      obtain ⟨y, rfl, hy⟩ := this
      refine v_adds (sl_le (by omega)) ?_
      exact ⟨_, _, _, rfl, by rw [len_app, List.length_append, List.length_singleton]; omega, s4⟩
    · walk_at "x"
      walk_at "nx"
      intro r5 h5 a5 b5 s5
      walk_at "x"
      refine char_k a5 b5 fun c => ?_
      refine v_adds (sl_le (by rw [len_ch]; omega)) ?_
      exact ⟨_, _, _, rfl, by rw [len_app, len_ch, List.length_append, List.length_singleton]; omega, s5⟩
  · rintro e h3 ⟨z, a, b, rfl, hz, s3⟩
    have hl : (rngL 0 r0.toNat).length = r0.toNat := by simp [rngL]
    have hz : z.length ≤ 4 * (rngL 0 r0.toNat).length := hz
    walk_at "x"
    exact k z _ (by omega) s3
theorem folder_k (hs : St t h) (hn : ns.length ≤ 63) (k : ∀ z h', z.length ≤ 105 → St t h' → P (.str z) h') : Sat (Mi.m_law_folder [.ref 0, scr ns] h) P := by
  unfold Mi.m_law_folder Mi.b_law_folder
  walk_at "x"
  refine s_seq ?_
  walk_at "x"
  walk_at "nx"
  intro r0 h0 a0 b0 s0
  walk_at "x"
  refine ⟨fun e => ?_, fun e => ?_⟩
  · walk_at "x"
    exact k _ _ (by decide) s0
  · walk_at "x"
    exact path_k s0 hn k
theorem text_k (hs : St t h) (hn : ns.length ≤ 63) (k : ∀ z h', z.length ≤ 10000 → St t h' → P (.str z) h') : Sat (Mi.m_law_text [.ref 0, scr ns] h) P := by
  unfold Mi.m_law_text Mi.b_law_text
  walk_at "x"
  walk_at "nx"
  intro r0 h0 a0 b0 s0
  refine s_seq ?_
  walk_at "x"
  refine ⟨fun e => ?_, fun e => ?_⟩
  · walk_at "x"
    exact words_k s0 hn fun z h' q s => k z h' (by omega) s
  walk_at "x"
  refine segment_k s0 hn fun z1 h1 q1 q2 s1 => ?_
  refine s_cut (fun e h => ∃ z : Str, e = [some (.ref 0), some (scr ns), some (.int r0), some (.str z), none, none, none, none, none] ∧ z.length ≤ 630 ∧ St t h) ?_ ?_
  · walk_at "x"
    refine ⟨fun e => ?_, fun e => ?_⟩
    · walk_at "x"
      refine ⟨rfl, ?_⟩
      walk_at "x"
      -- the number of parts is drawn ahead of the comprehension
      refine x_compI (fun pre post h acc => ∃ (n : Nat) (ys : List Str), n ≤ 30 ∧ pre.length + post.length = n ∧ acc = ys.map .str ∧ ys.length = pre.length ∧ (∀ y ∈ ys, y.length ≤ 20) ∧ St t h) ?_
      walk_at "x"
      refine ⟨sl_le (by decide), ?_⟩
      walk_at "x"
      walk_at "nx"
      intro r2 h2 a2 b2 s2
      obtain ⟨d, e1, m, _⟩ := atI_ok (xs := [D.int 7, .int 7, .int 30]) a2 b2
      refine x_some (d := d) e1 ?_
      have : ∃ y : Int, d = .int y ∧ 1 ≤ y ∧ y ≤ 30 := by
        simp only [List.mem_cons, List.not_mem_nil, or_false] at m
        rcases m with rfl | rfl | rfl
        all_goals exact ⟨_, rfl, by decide, by decide⟩
      obtain ⟨y, rfl, y1, y2⟩ := this
      walk_at "x"
      walk_at "nx"
      intro r3 h3 a3 b3 s3
      walk_at "x"
      have hq : (rngL 0 (1 + r3).toNat).length = (1 + r3).toNat := by simp [rngL]
      refine x_rng1 (by omega) ⟨⟨(1 + r3).toNat, [], by omega, by simp [rngL], rfl, rfl, by simp, s3⟩, fun _ _ _ _ _ _ => trivial, ?_, ?_⟩
      · rintro pre x post h4 acc hx ⟨n, ys, hn1, hn2, rfl, hl, hy, s4⟩
        refine ⟨_, rfl, x_yes ⟨fun _ => ⟨?_, ?_⟩, fun z => nomatch z⟩⟩
        · rw [List.length_cons] at hn2
          rw [sizeLine_eq, List.length_map]
          omega
        · walk_at "x"
          refine part_k s4 hn fun z h5 z1 z2 s5 => ?_
          rw [List.length_cons] at hn2
          exact ⟨n, ys ++ [z], hn1, by simp; omega, by simp, by simp [hl], fun y m => by
            simp only [List.mem_append, List.mem_singleton] at m
            rcases m with m | rfl
            · exact hy y m
            · exact z1, s5⟩
      · rintro h4 acc ⟨n, ys, hn1, hn2, rfl, hl, hy, s4⟩
        walk_at "x"
        have hl : ys.length = (rngL 0 (1 + r3).toNat).length := hl
        have hj := len_join "/" ys 20 hy
        have h1' : Str.length "/" = 1 := by decide
        have hj2 := StrLaws.join_length_le "/" ys
        rw [h1'] at hj hj2
        refine v_join (ys := ys) rfl (by rw [h1']; omega) ⟨_, rfl, ?_, s4⟩
        show (Builtin.Str.glued "/" ys).length ≤ _
        rw [StrLaws.glued_eq_join]
        omega
    · walk_at "x"
      exact ⟨z1, rfl, by omega, s1⟩
  rintro _ h1 ⟨z, rfl, hz, s1⟩
  refine s_cut (fun e h => ∃ z : Str, e = [some (.ref 0), some (scr ns), some (.int r0), some (.str z), none, none, none, none, none] ∧ z.length ≤ 670 ∧ St t h) ?_ ?_
  · walk_at "x"
    walk_at "nx"
    intro r2 h2 a2 b2 s2
    walk_at "x"
    refine ⟨fun e => ?_, fun e => ?_⟩
    · walk_at "x"
      refine segment_k s2 hn fun z3 h3 q3 _ s3 => ?_
      refine v_adds (sl_le (by omega)) ?_
      walk_at "x"
      refine segment_k s3 hn fun z4 h4 q4 _ s4 => ?_
      refine v_adds (sl_le (by rw [len_app]; omega)) ?_
      exact ⟨_, rfl, by rw [len_app, len_app]; omega, s4⟩
    · walk_at "x"
      exact ⟨z, rfl, by omega, s2⟩
  rintro _ h1 ⟨z, rfl, hz, s1⟩
  refine s_cut (fun e h => ∃ z : Str, e = [some (.ref 0), some (scr ns), some (.int r0), some (.str z), none, none, none, none, none] ∧ z.length ≤ 9400 ∧ St t h) ?_ ?_
  · walk_at "x"
    walk_at "nx"
    intro r2 h2 a2 b2 s2
    walk_at "x"
    refine ⟨fun e => ?_, fun e => ?_⟩
    · walk_at "x"
      walk_at "nx"
      intro r3 h3 a3 b3 s3
      walk_at "x"
      have hm : z.length * (1 + r3).toNat ≤ 670 * 14 := Nat.mul_le_mul (by omega) (by omega)
      refine v_muls ⟨by omega, by omega, sl_le (by omega)⟩ ?_
      exact ⟨_, rfl, by rw [len_rep, Nat.mul_comm]; omega, s3⟩
    · walk_at "x"
      exact ⟨z, rfl, by omega, s2⟩
  rintro _ h1 ⟨z, rfl, hz, s1⟩
  refine s_seq (s_forI (fun pre post e h => ∃ z a b c d, e = [some (.ref 0), some (scr ns), some (.int r0), some (.str z), a, b, c, d, none] ∧ z.length ≤ 9400 + pre.length ∧ pre.length + post.length ≤ 3 ∧ St t h) ?_)
  walk_at "x"
  refine ⟨sl_le (by decide), ?_⟩
  walk_at "x"
  walk_at "nx"
  intro r2 h2 a2 b2 s2
  obtain ⟨d, e1, m, _⟩ := atI_ok (xs := [D.int 1, .int 1, .int 2, .int 3]) a2 b2
  refine x_some (d := d) e1 ?_
  have : ∃ y : Int, d = .int y ∧ 1 ≤ y ∧ y ≤ 3 := by
    simp only [List.mem_cons, List.not_mem_nil, or_false] at m
    rcases m with rfl | rfl | rfl | rfl
    all_goals exact ⟨_, rfl, by decide, by decide⟩
  obtain ⟨y, rfl, y1, y2⟩ := this
  walk_at "x"
  refine x_rng1 (by omega) ⟨⟨z, _, _, _, _, rfl, by simp; omega, by simp [rngL]; omega, s2⟩, fun _ _ _ _ _ _ => trivial, ?_, ?_⟩
  · rintro pre x post e h3 hx ⟨z, a, b, c, d, rfl, hz, hl, s3⟩
    rw [List.length_cons] at hl
    refine ⟨_, rfl, ?_⟩
    walk_at "x"
    refine v_lens (sl_le (by omega)) ?_
    walk_at "x"
    walk_at "nx"
    intro p h4 a4 b4 s4
    walk_at "x"
    walk_at "nx"
    intro ch5 h5 a5 b5 s5
    walk_at "x"
    walk_at "nx"
    intro r6 h6 a6 b6 s6
    walk_at "x"
    refine char_k a6 b6 fun c6 => ?_
    have cut := fun l u => len_cutS z l u
    have two : ∀ q : Int, 0 ≤ q → q ≤ z.length → (cutS z none (some q)).length = q.toNat ∧ (cutS z (some q) none).length = z.length - q.toNat := by
      intro q q0 q1
      obtain ⟨n, rfl⟩ := Int.eq_ofNat_of_zero_le q0
      constructor
      · show (List.toArray _).size = _
        rw [List.size_toArray, HT.sIx_none, HT.sIx_nat, List.length_take, List.length_drop, len_list]
        omega
      · show (List.toArray _).size = _
        rw [List.size_toArray, HT.sIx_none, HT.sIx_nat, List.length_take, List.length_drop, len_list]
        omega
    have t1 := two p a4 (by omega)
    refine s_cut (fun e h => ∃ z' : Str, e = [some (.ref 0), some (scr ns), some (.int r0), some (.str z'), some x, some (.int p), some (.int ch5), some (.str (ch c6)), none] ∧ (z' = z ∨ ch5 = 0) ∧ z'.length ≤ 9400 + pre.length + 1 ∧ St t h) ?_ ?_
    · walk_at "x"
      refine ⟨fun e => ?_, fun e => ?_⟩
      · have e : ch5 = 0 := by simpa using e
        walk_at "x"
        refine v_slS (sl_le (by omega)) ?_
        walk_at "x"
        refine v_adds (sl_le (by rw [len_ch]; omega)) ?_
        walk_at "x"
        refine v_slS (sl_le (by omega)) ?_
        refine v_adds (sl_le (by rw [len_app, len_ch]; omega)) ?_
        exact ⟨_, rfl, .inr e, by rw [len_app, len_app, len_ch]; omega, s6⟩
      · walk_at "x"
        exact ⟨z, rfl, .inl rfl, by omega, s6⟩
    rintro _ h7 ⟨z', rfl, hz', hl', s7⟩
    refine s_cut (fun e h => ∃ z' : Str, e = [some (.ref 0), some (scr ns), some (.int r0), some (.str z'), some x, some (.int p), some (.int ch5), some (.str (ch c6)), none] ∧ (z' = z ∨ ch5 = 0 ∨ ch5 = 1) ∧ z'.length ≤ 9400 + pre.length + 1 ∧ St t h) ?_ ?_
    · walk_at "x"
      refine ⟨fun e => ?_, fun e => ?_⟩
      · have e : ch5 = 1 := by simpa using e
        have hz' : z' = z := by
          rcases hz' with q | q
          · exact q
          · omega
        subst hz'
        walk_at "x"
        refine v_slS (sl_le (by omega)) ?_
        walk_at "x"
        refine v_adds (sl_le (by rw [len_ch]; omega)) ?_
        walk_at "x"
        refine v_slS (sl_le (by omega)) ?_
        have c1 := cut (some (p + 1)) none
        have t2 : (cutS z' (some (p + 1)) none).length ≤ z'.length - p.toNat := by
          by_cases hp : p + 1 ≤ z'.length
          · have := (two (p + 1) (by omega) hp).2
            omega
          · show (List.toArray _).size ≤ _
            obtain ⟨n, hn⟩ := Int.eq_ofNat_of_zero_le (show 0 ≤ p + 1 by omega)
            rw [hn, List.size_toArray, HT.sIx_none, HT.sIx_nat, List.length_take, List.length_drop, len_list]
            omega
        refine v_adds (sl_le (by rw [len_app, len_ch]; omega)) ?_
        exact ⟨_, rfl, .inr (.inr e), by rw [len_app, len_app, len_ch]; omega, s7⟩
      · walk_at "x"
        exact ⟨z', rfl, by rcases hz' with q | q <;> simp [q], hl', s7⟩
    rintro _ h8 ⟨z', rfl, hz', hl', s8⟩
    walk_at "x"
    refine ⟨fun e => ?_, fun e => ?_⟩
    · have e : ch5 = 2 := by simpa using e
      walk_at "x"
      refine v_slS (sl_le (by omega)) ?_
      walk_at "x"
      refine v_slS (sl_le (by omega)) ?_
      have hz' : z' = z := by
        rcases hz' with q | q | q
        · exact q
        · omega
        · omega
      subst hz'
      have c1 := cut (some (p + 1)) none
      have t2 : (cutS z' (some (p + 1)) none).length ≤ z'.length - p.toNat := by
        by_cases hp : p + 1 ≤ z'.length
        · have := (two (p + 1) (by omega) hp).2
          omega
        · show (List.toArray _).size ≤ _
          obtain ⟨n, hn⟩ := Int.eq_ofNat_of_zero_le (show 0 ≤ p + 1 by omega)
          rw [hn, List.size_toArray, HT.sIx_none, HT.sIx_nat, List.length_take, List.length_drop, len_list]
          omega
      refine v_adds (sl_le (by omega)) ?_
      exact ⟨_, _, _, _, _, rfl, by rw [len_app, List.length_append, List.length_singleton]; omega, by rw [List.length_append, List.length_singleton]; omega, s8⟩
    · walk_at "x"
      exact ⟨z', _, _, _, _, rfl, by rw [List.length_append, List.length_singleton]; omega, by rw [List.length_append, List.length_singleton]; omega, s8⟩
  · rintro e h3 ⟨z, a, b, c, d, rfl, hz, hl, s3⟩
    walk_at "x"
    exact k z _ (by omega) s3
end
end
end Vi

set_option Elab.async false
set_option linter.all false
set_option autoImplicit false
set_option maxRecDepth 100000
set_option maxHeartbeats 1000000
namespace Vi
open PySem PySem.Spec PyProof.Rows L2
open scoped Classical
local macro_rules | `(tactic| walk_at "x1") => `(tactic| with_reducible first
  | refine x_bin ?_ | refine x_tst ?_ | refine x_oB ?_ | refine x_c ?_ | refine s_seqA ?_ | refine s_seqU ?_ | refine s_seqE ?_ | refine s_seqN ?_ | refine s_asg' ?_ | refine s_if' ?_ | refine s_ret' ?_ | refine s_exp' ?_ | refine s_next ?_ | refine s_retN' ?_ | refine s_sub' ?_
  | refine x_cb ?_ | refine x_cons ?_ | refine x_nil ?_ | refine x_call ?_ | refine x_met ?_ | refine x_un ?_ | refine x_notT ?_ | refine x_andT ?_ | refine x_orT ?_ | refine x_and ?_ | refine x_or ?_ | refine x_not ?_ | refine x_if ?_
  | refine x_tup ?_ | refine x_lst ?_ | refine x_cel ?_ | refine x_sl ?_ | refine x_noP ?_ | refine x_part ?_ | refine x_oI ?_ | refine x_mI ?_ | refine x_rng ?_ | refine x_yes ?_ | refine x_fun ?_ | refine x_ok ?_)
local macro_rules | `(tactic| walk_at "x2") => `(tactic| first
  | ((with_reducible refine y_var ?_); refine ⟨_, rfl, ?_⟩)
  | ((with_reducible refine y_some ?_); refine ⟨_, rfl, ?_⟩)
  | ((with_reducible refine y_gP ?_); refine ⟨_, rfl, ?_⟩))
local macro_rules | `(tactic| walk_at "x3") => `(tactic| first
  | ((with_reducible refine v_mod ?_ ?_); (first | decide | omega))
  | ((with_reducible refine v_pow ?_ ?_); exact ⟨by decide, by decide, by decide⟩))
local macro_rules | `(tactic| walk_at "x") => `(tactic| repeat (first | walk_at "x1" | walk_at "x2" | walk_at "x3" ))
local macro_rules | `(tactic| walk_at "nx") => `(tactic| (refine next_k (by assumption) (by assumption) (by first | decide | omega) (by first | decide | omega) ?_))
/-! ### .. and their signs stand for characters -/
abbrev okS (z : Str) : Prop := PyData.strOk z = true
theorem okS_iff {z : Str} : okS z ↔ ∀ c ∈ z.cps.toList, c < 0x110000 := by
  unfold okS PyData.strOk
  rw [← Array.all_toList, List.all_eq_true]
  exact ⟨fun h c m => of_decide_eq_true (h c m), fun h c m => decide_eq_true (h c m)⟩
theorem okS_app {x y : Str} (hx : okS x) (hy : okS y) : okS (x ++ y) := by
  rw [okS_iff] at *
  intro c m
  have m : c ∈ TL.tl (x ++ y) := m
  rw [TL.tl_append] at m
  rcases List.mem_append.mp m with m | m
  · exact hx c m
  · exact hy c m
theorem okS_ch {z : Str} {c : Nat} (hz : okS z) (m : c ∈ z.cps.toList) : okS (ch c) := by
  rw [okS_iff] at *
  intro d e
  have e : d ∈ [c] := e
  rw [List.mem_singleton.mp e]
  exact hz c m
theorem okS_join {y : Str} (hy : okS y) : ∀ {ys : List Str}, (∀ z ∈ ys, okS z) → okS (Txt.join y ys) := by
  intro ys h
  show okS (Builtin.Str.glued y ys)
  rw [StrLaws.glued_eq_join]
  induction ys with
  | nil =>
    have e : Str.join y [] = ⟨#[]⟩ := rfl
    rw [e]
    decide +kernel
  | cons a ys ih =>
    cases ys with
    | nil => exact h a List.mem_cons_self
    | cons b ys => exact okS_app (okS_app (h a List.mem_cons_self) hy) (ih fun z m => h z (List.mem_cons_of_mem _ m))
section
variable {t h : Hap} {ns : List Int}
theorem segment_okS (hs : St t h) (hn : ns.length ≤ 63) : Sat (Mi.m_law_segment [.ref 0, scr ns] h) fun d h' => ∃ z, d = .str z ∧ z.length ≤ 20 ∧ 1 ≤ z.length ∧ okS z ∧ St t h' := by
  unfold Mi.m_law_segment Mi.b_law_segment
  walk_at "x"
  walk_at "nx"
  intro r0 h0 a0 b0 s0
  walk_at "x"
  refine s_cut (fun e h => ∃ size : Int, e = [some (.ref 0), some (scr ns), some (.str "abcdefghijklmnopqrstuvwxyz0123456789"), some (.str ("abcdefghijklmnopqrstuvwxyz0123456789" ++ "_-.")), some (.int size), none, none] ∧ 1 ≤ size ∧ size ≤ 20 ∧ St t h) ?_ ?_
  · walk_at "x"
    refine ⟨fun e => ?_, fun e => ?_⟩
    · walk_at "x"
      walk_at "nx"
      intro r1 h1 a1 b1 s1
      walk_at "x"
      exact ⟨_, rfl, by omega, by omega, s1⟩
    · walk_at "x"
      exact ⟨_, rfl, by omega, by omega, s0⟩
  rintro _ h1 ⟨size, rfl, q0, q1, s1⟩
  walk_at "x"
  walk_at "nx"
  intro r2 h2 a2 b2 s2
  obtain ⟨c, e1, cm, _⟩ := atI_ok (xs := ("abcdefghijklmnopqrstuvwxyz0123456789" : Str).cps.toList) a2 (by rw [len_list]; exact b2)
  refine v_ixS (sl_le (by decide)) e1 ?_
  walk_at "x"
  refine s_seq (s_forI (fun pre post e h => ∃ z k, e = [some (.ref 0), some (scr ns), some (.str "abcdefghijklmnopqrstuvwxyz0123456789"), some (.str ("abcdefghijklmnopqrstuvwxyz0123456789" ++ "_-.")), some (.int size), some (.str z), k] ∧ z.length = 1 + pre.length ∧ okS z ∧ St t h) ?_)
  walk_at "x"
  refine x_rng1 (by omega) ⟨⟨_, _, rfl, rfl, okS_ch (by decide +kernel) cm, s2⟩, fun _ _ _ _ _ _ => trivial, ?_, ?_⟩
  · rintro pre x post e h3 hx ⟨z, k, rfl, hz, oz, s3⟩
    have hl := congrArg List.length hx
    simp only [rngL, List.length_map, List.length_range, List.length_append, List.length_cons] at hl
    refine ⟨_, rfl, ?_⟩
    walk_at "x"
    walk_at "nx"
    intro r4 h4 a4 b4 s4
    obtain ⟨c, e1, cm, _⟩ := atI_ok (xs := ("abcdefghijklmnopqrstuvwxyz0123456789" ++ "_-." : Str).cps.toList) a4 (by rw [len_list]; exact b4)
    refine v_ixS (sl_le (by decide)) e1 ?_
    refine v_adds (sl_le (by rw [len_ch]; omega)) ?_
    exact ⟨_, _, rfl, by rw [len_app, len_ch, hz, List.length_append, List.length_singleton]; omega, okS_app oz (okS_ch (by decide +kernel) cm), s4⟩
  · rintro e h3 ⟨z, k, rfl, hz, oz, s3⟩
    have hl : (rngL 0 (size - 1).toNat).length = (size - 1).toNat := by simp [rngL]
    have hz : z.length = 1 + (rngL 0 (size - 1).toNat).length := hz
    walk_at "x"
    exact ⟨z, rfl, by omega, by omega, oz, s3⟩
theorem part_okS (hs : St t h) (hn : ns.length ≤ 63) : Sat (Mi.m_law_part [.ref 0, scr ns] h) fun d h' => ∃ z, d = .str z ∧ z.length ≤ 20 ∧ 1 ≤ z.length ∧ okS z ∧ St t h' := by
  unfold Mi.m_law_part Mi.b_law_part
  walk_at "x"
  walk_at "nx"
  intro r0 h0 a0 b0 s0
  refine s_seq ?_
  walk_at "x"
  refine ⟨fun e => ?_, fun e => ?_⟩
  · have e : r0 < 5 := by simpa using e
    walk_at "x"
    refine ⟨sl_le (by decide), ?_⟩
    walk_at "x"
    obtain ⟨d, e1, m, _⟩ := atI_ok (xs := [D.str "a", .str "b", .str "ab", .str "a.b", .str "build"]) a0 e
    refine x_some (d := d) e1 ?_
    simp only [List.mem_cons, List.not_mem_nil, or_false] at m
    rcases m with rfl | rfl | rfl | rfl | rfl
    all_goals exact ⟨_, rfl, by decide, by decide, by decide +kernel, s0⟩
  · walk_at "x"
    exact segment_okS s0 hn
theorem segment_kS {P : D → Hap → Prop} (hs : St t h) (hn : ns.length ≤ 63) (k : ∀ z h', z.length ≤ 20 → 1 ≤ z.length → okS z → St t h' → P (.str z) h') : Sat (Mi.m_law_segment [.ref 0, scr ns] h) P :=
  (segment_okS hs hn).mono fun d h' ⟨z, e, a, b, o, c⟩ => by
    subst e
    exact k z h' a b o c
theorem part_kS {P : D → Hap → Prop} (hs : St t h) (hn : ns.length ≤ 63) (k : ∀ z h', z.length ≤ 20 → 1 ≤ z.length → okS z → St t h' → P (.str z) h') : Sat (Mi.m_law_part [.ref 0, scr ns] h) P :=
  (part_okS hs hn).mono fun d h' ⟨z, e, a, b, o, c⟩ => by
    subst e
    exact k z h' a b o c
/-- "/".join of some parts -/
theorem parts_kS {n : Nat} {env : Env} {P : D → Hap → Prop} {i : Nat} (hs : St t h) (hn : ns.length ≤ 63) (hn2 : n ≤ 1000) (e0 : (env.set i none)[0]? = some (some (.ref 0))) (e1 : (env.set i none)[1]? = some (some (scr ns))) (n0 : 0 ≠ i) (n1 : 1 ≠ i)
    (src : MI) (hsrc : ∀ P' : List D × (Hap → Prop) → Hap → Prop, P' (rngL 0 n, fun _ => True) h → Sat (src env h) P')
    (k : ∀ z h', z.length ≤ n * 21 → okS z → St t h' → P (.str z) h') : Sat (mComp src [i] (gNm i) mYes (mCall Mi.m_law_part (mCons (mVar 0) (mCons (mVar 1) mNil))) env h) fun d h1 => Sat (gP dJoin (.str "/") [d] h1) P := by
  refine x_compI (fun pre post h acc => ∃ ys : List Str, acc = ys.map .str ∧ ys.length = pre.length ∧ (∀ y ∈ ys, y.length ≤ 20 ∧ okS y) ∧ St t h) (hsrc _ ⟨⟨[], rfl, rfl, by simp, hs⟩, fun _ _ _ _ _ _ => trivial, ?_, ?_⟩)
  · rintro pre x post h1 acc hx ⟨ys, rfl, hl, hy, s1⟩
    have hq := congrArg List.length hx
    simp only [rngL, List.length_map, List.length_range, List.length_append, List.length_cons] at hq
    refine ⟨_, rfl, x_yes ⟨fun _ => ⟨?_, ?_⟩, fun z => nomatch z⟩⟩
    · rw [sizeLine_eq, List.length_map]; omega
    · refine x_call (x_cons (x_var (d := .ref 0) ?_ (x_cons (x_var (d := scr ns) ?_ (x_nil (part_kS s1 hn ?_))))))
      · show ((env.set i none).set i _)[0]? = _
        rw [List.getElem?_set_ne (Ne.symm n0)]; exact e0
      · show ((env.set i none).set i _)[1]? = _
        rw [List.getElem?_set_ne (Ne.symm n1)]; exact e1
      · intro z h2 z1 z2 zo s2
        exact ⟨ys ++ [z], by simp, by simp [hl], fun y m => by
          simp only [List.mem_append, List.mem_singleton] at m
          rcases m with m | rfl
          · exact hy y m
          · exact ⟨z1, zo⟩, s2⟩
  · rintro h1 acc ⟨ys, rfl, hl, hy, s1⟩
    have hl : ys.length = (rngL 0 n).length := hl
    have hq : (rngL 0 n).length = n := by simp [rngL]
    have hj := len_join "/" ys 20 fun y m => (hy y m).1
    have h1' : Str.length "/" = 1 := by decide
    rw [h1'] at hj
    have hj2 := StrLaws.join_length_le "/" ys
    rw [h1'] at hj2
    refine v_join (ys := ys) rfl (by rw [h1']; omega) (k _ _ ?_ (okS_join (by decide +kernel) fun y m => (hy y m).2) s1)
    show (Builtin.Str.glued "/" ys).length ≤ _
    rw [StrLaws.glued_eq_join]
    have : ys.length * (20 + 1) = n * 21 := by rw [hl, hq]
    omega
theorem path_kS {P : D → Hap → Prop} (hs : St t h) (hn : ns.length ≤ 63) (k : ∀ z h', z.length ≤ 105 → okS z → St t h' → P (.str z) h') : Sat (Mi.m_law_path [.ref 0, scr ns] h) P := by
  unfold Mi.m_law_path Mi.b_law_path
  walk_at "x"
  walk_at "nx"
  intro r0 h0 a0 b0 s0
  walk_at "x"
  refine s_cut (fun e h => ∃ size : Int, e = [some (.ref 0), some (scr ns), some (.int size), none] ∧ 1 ≤ size ∧ size ≤ 5 ∧ St t h) ?_ ?_
  · walk_at "x"
    refine ⟨fun e => ?_, fun e => ?_⟩
    · walk_at "x"
      walk_at "nx"
      intro r1 h1 a1 b1 s1
      walk_at "x"
      exact ⟨_, rfl, by omega, by omega, s1⟩
    · walk_at "x"
      exact ⟨_, rfl, by omega, by omega, s0⟩
  rintro _ h1 ⟨size, rfl, q0, q1, s1⟩
  walk_at "x"
  refine ⟨rfl, ?_⟩
  walk_at "x"
  refine parts_kS (n := size.toNat) s1 hn (by omega) rfl rfl (by decide) (by decide) _ (fun P' p => ?_) fun z h' q o s => k z h' (by omega) o s
  walk_at "x"
  exact x_rng1 (by omega) p
end
end Vi

set_option Elab.async false
set_option linter.all false
set_option autoImplicit false
set_option maxRecDepth 100000
set_option maxHeartbeats 1000000
namespace Vi
open PySem PySem.Spec PyProof.Rows L2
/-! ### patterns over lists -/
section
variable {α β : Type}
def gmat (star : α → Bool) (one : α → β → Bool) : List α → List β → Bool
  | [], s => s.isEmpty
  | p :: ps, s => if star p = true then (List.range (s.length + 1)).any fun k => gmat star one ps (s.drop k) else match s with
    | [] => false
    | c :: s' => one p c && gmat star one ps s'
variable {star : α → Bool} {one : α → β → Bool}
theorem gmat_cons {p : α} {ps : List α} {s : List β} : gmat star one (p :: ps) s = if star p = true then (List.range (s.length + 1)).any fun k => gmat star one ps (s.drop k) else match s with
    | [] => false
    | c :: s' => one p c && gmat star one ps s' := by cases s <;> rfl
theorem gmat_star {p : α} {ps : List α} {s : List β} (h : star p = true) : gmat star one (p :: ps) s = true ↔ ∃ k, k ≤ s.length ∧ gmat star one ps (s.drop k) = true := by
  rw [gmat_cons, if_pos h, List.any_eq_true]
  constructor
  · rintro ⟨k, m, e⟩
    exact ⟨k, by have := List.mem_range.mp m; omega, e⟩
  · rintro ⟨k, m, e⟩
    exact ⟨k, List.mem_range.mpr (by omega), e⟩
theorem gmat_one {p : α} {ps : List α} {s : List β} (h : star p = false) : gmat star one (p :: ps) s = true ↔ ∃ c s', s = c :: s' ∧ one p c = true ∧ gmat star one ps s' = true := by
  rw [gmat_cons, if_neg (by rw [h]; exact fun z => nomatch z)]
  cases s with
  | nil => simp
  | cons c s' =>
    constructor
    · intro h2
      have h2 : (one p c && gmat star one ps s') = true := h2
      rw [Bool.and_eq_true] at h2
      exact ⟨c, s', rfl, h2.1, h2.2⟩
    · rintro ⟨c', s'', e, h2, h3⟩
      injection e with e1 e2
      subst e1 e2
      show (one p c && gmat star one ps s') = true
      rw [h2, h3]
      rfl
/-! by rows -/
def nxt (st : Bool) (f : Nat → Bool) (r : Nat → Bool) : Nat → Bool
  | 0 => r 0 && st
  | j + 1 => if st = true then r (j + 1) || nxt st f r j else r j && f j
def Vr (star : α → Bool) (one : α → β → Bool) (s : List β) (r : Nat → Bool) (ps : List α) : Prop := ∃ j, j ≤ s.length ∧ r j = true ∧ gmat star one ps (s.drop j) = true
def hit (one : α → β → Bool) (p : α) (s : List β) (k : Nat) : Bool := match s[k]? with
  | some c => one p c
  | none => false
theorem nxt_star {f r : Nat → Bool} : ∀ j : Nat, nxt true f r j = true ↔ ∃ i, i ≤ j ∧ r i = true
  | 0 => by
    unfold nxt
    rw [Bool.and_true]
    constructor
    · exact fun h => ⟨0, Nat.le_refl _, h⟩
    · rintro ⟨i, h, e⟩
      have : i = 0 := by omega
      subst this
      exact e
  | j + 1 => by
    unfold nxt
    rw [if_pos rfl, Bool.or_eq_true, nxt_star j]
    constructor
    · rintro (h | ⟨i, h, e⟩)
      · exact ⟨_, Nat.le_refl _, h⟩
      · exact ⟨i, by omega, e⟩
    · rintro ⟨i, h, e⟩
      by_cases q : i = j + 1
      · subst q
        exact .inl e
      · exact .inr ⟨i, by omega, e⟩
theorem vr_step {s : List β} {r : Nat → Bool} {p : α} {ps : List α} : Vr star one s (nxt (star p) (hit one p s) r) ps ↔ Vr star one s r (p :: ps) := by
  unfold Vr
  cases hs : star p with
  | true =>
    constructor
    · rintro ⟨j, hj, e, g⟩
      obtain ⟨i, hi, e2⟩ := (nxt_star j).mp e
      refine ⟨i, by omega, e2, (gmat_star hs).mpr ⟨j - i, by rw [List.length_drop]; omega, ?_⟩⟩
      rw [List.drop_drop, show i + (j - i) = j by omega]
      exact g
    · rintro ⟨i, hi, e, g⟩
      obtain ⟨k, hk, g⟩ := (gmat_star hs).mp g
      rw [List.length_drop] at hk
      rw [List.drop_drop] at g
      exact ⟨i + k, by omega, (nxt_star _).mpr ⟨i, by omega, e⟩, g⟩
  | false =>
    constructor
    · rintro ⟨j, hj, e, g⟩
      cases j with
      | zero => simp [nxt] at e
      | succ j =>
        simp only [nxt, Bool.false_eq_true, if_false, Bool.and_eq_true] at e
        have hl : j < s.length := by omega
        refine ⟨j, by omega, e.1, (gmat_one hs).mpr ⟨s[j], s.drop (j + 1), List.drop_eq_getElem_cons hl, ?_, g⟩⟩
        have q := e.2
        unfold hit at q
        rw [List.getElem?_eq_getElem hl] at q
        exact q
    · rintro ⟨j, hj, e, g⟩
      obtain ⟨c, s', es, ho, g⟩ := (gmat_one hs).mp g
      have hl : j < s.length := by
        have := congrArg List.length es
        rw [List.length_drop, List.length_cons] at this
        omega
      rw [List.drop_eq_getElem_cons hl] at es
      injection es with e1 e2
      refine ⟨j + 1, by omega, ?_, by rw [e2]; exact g⟩
      simp only [nxt, Bool.false_eq_true, if_false, Bool.and_eq_true]
      refine ⟨e, ?_⟩
      unfold hit
      rw [List.getElem?_eq_getElem hl, e1]
      exact ho
theorem vr_nil {s : List β} {r : Nat → Bool} : Vr star one s r [] ↔ r s.length = true := by
  unfold Vr
  constructor
  · rintro ⟨j, hj, e, g⟩
    unfold gmat at g
    have : j = s.length := by
      have := List.isEmpty_iff.mp g
      have := congrArg List.length this
      rw [List.length_drop, List.length_nil] at this
      omega
    subst this
    exact e
  · intro e
    exact ⟨_, Nat.le_refl _, e, by unfold gmat; rw [List.drop_length]; rfl⟩
theorem vr_init {s : List β} {ps : List α} : Vr star one s (fun j => j == 0) ps ↔ gmat star one ps s = true := by
  unfold Vr
  constructor
  · rintro ⟨j, hj, e, g⟩
    have : j = 0 := by simpa using e
    subst this
    exact g
  · intro g
    exact ⟨0, Nat.zero_le _, rfl, g⟩
end
/-! ### texts with stars: the greedy search -/
abbrev gmL : List Nat → List Nat → Bool := gmat (fun c => c == 42) fun a b : Nat => a == b
def tailM (l : List Nat) : List (List Nat) → List Nat → Prop
  | [], t => ∃ k, k ≤ t.length ∧ t.drop k = l
  | q :: qs, t => ∃ k, k ≤ t.length ∧ (t.drop k).take q.length = q ∧ tailM l qs (t.drop (k + q.length))
theorem tailM_mono {l : List Nat} : ∀ {qs : List (List Nat)} {t : List Nat} (m : Nat), tailM l qs (t.drop m) → tailM l qs t := by
  intro qs t m h
  by_cases hm : m ≤ t.length
  · cases qs with
    | nil =>
      obtain ⟨k, hk, e⟩ := h
      rw [List.length_drop] at hk
      rw [List.drop_drop] at e
      exact ⟨m + k, by omega, e⟩
    | cons q qs =>
      obtain ⟨k, hk, e, r⟩ := h
      rw [List.length_drop] at hk
      rw [List.drop_drop] at e r
      exact ⟨m + k, by omega, e, by rw [Nat.add_assoc]; exact r⟩
  · have e0 : t.drop m = t.drop t.length := by rw [List.drop_length, List.drop_eq_nil_of_le (by omega)]
    rw [e0] at h
    cases qs with
    | nil =>
      obtain ⟨k, hk, e⟩ := h
      rw [List.drop_length] at hk e
      have : k = 0 := by simpa using hk
      subst this
      exact ⟨t.length, Nat.le_refl _, by rw [List.drop_length]; exact e⟩
    | cons q qs =>
      obtain ⟨k, hk, e, r⟩ := h
      rw [List.drop_length] at hk
      have : k = 0 := by simpa using hk
      subst this
      rw [List.drop_drop] at e r
      exact ⟨t.length, Nat.le_refl _, e, by simpa using r⟩
def AtL (s q : List Nat) (v : Nat) : Prop := v + q.length ≤ s.length ∧ (s.drop v).take q.length = q
theorem tail_found {l q s : List Nat} {qs : List (List Nat)} {a k : Nat} (ha : a ≤ s.length) (h1 : a ≤ k) (h2 : AtL s q k) (h3 : ∀ v, a ≤ v → v < k → ¬ AtL s q v) : tailM l (q :: qs) (s.drop a) ↔ tailM l qs (s.drop (k + q.length)) := by
  constructor
  · rintro ⟨i, hi, e, r⟩
    rw [List.length_drop] at hi
    rw [List.drop_drop] at e r
    have hl := congrArg List.length e
    rw [List.length_take, List.length_drop] at hl
    have at_ : AtL s q (a + i) := ⟨by omega, e⟩
    have : k ≤ a + i := by
      by_cases z : k ≤ a + i
      · exact z
      · exact absurd at_ (h3 _ (by omega) (by omega))
    refine tailM_mono (a + i - k) ?_
    rw [List.drop_drop, show k + q.length + (a + i - k) = a + (i + q.length) by omega]
    exact r
  · intro r
    refine ⟨k - a, by rw [List.length_drop]; have := h2.1; omega, ?_, ?_⟩
    · rw [List.drop_drop, show a + (k - a) = k by omega]
      exact h2.2
    · rw [List.drop_drop, show a + (k - a + q.length) = k + q.length by omega]
      exact r
theorem tail_none {l q s : List Nat} {qs : List (List Nat)} {a : Nat} (ha : a ≤ s.length) (h3 : ∀ v, a ≤ v → ¬ AtL s q v) : ¬ tailM l (q :: qs) (s.drop a) := by
  rintro ⟨i, hi, e, r⟩
  rw [List.length_drop] at hi
  rw [List.drop_drop] at e
  have hl := congrArg List.length e
  rw [List.length_take, List.length_drop] at hl
  exact h3 (a + i) (by omega) ⟨by omega, e⟩
theorem tail_end {l s : List Nat} {a : Nat} (ha : a ≤ s.length) (hl : l.length ≤ s.length) (he : s.drop (s.length - l.length) = l) : tailM l [] (s.drop a) ↔ a + l.length ≤ s.length := by
  constructor
  · rintro ⟨k, hk, e⟩
    rw [List.length_drop] at hk
    have := congrArg List.length e
    rw [List.length_drop, List.length_drop] at this
    omega
  · intro h
    refine ⟨s.length - l.length - a, by rw [List.length_drop]; omega, ?_⟩
    rw [List.drop_drop, show a + (s.length - l.length - a) = s.length - l.length by omega]
    exact he
theorem tail_ends {l s : List Nat} {qs : List (List Nat)} : ∀ {a : Nat}, tailM l qs (s.drop a) → l.length ≤ s.length ∧ s.drop (s.length - l.length) = l := by
  induction qs with
  | nil =>
    rintro a ⟨k, hk, e⟩
    rw [List.drop_drop] at e
    have := congrArg List.length e
    rw [List.length_drop] at this
    by_cases z : a + k ≤ s.length
    · exact ⟨by omega, by rw [show s.length - l.length = a + k by omega]; exact e⟩
    · have z2 : l.length = 0 := by omega
      refine ⟨by omega, ?_⟩
      rw [z2, Nat.sub_zero, List.drop_length]
      exact (List.length_eq_zero_iff.mp z2).symm
  | cons q qs ih =>
    rintro a ⟨k, hk, e, r⟩
    rw [List.drop_drop] at r
    exact ih r
def J (l : List Nat) : List (List Nat) → List Nat
  | [] => l
  | q :: qs => q ++ 42 :: J l qs
theorem gml_lit {p Q : List Nat} (hp : 42 ∉ p) : ∀ {s : List Nat}, gmL (p ++ Q) s = true ↔ s.take p.length = p ∧ gmL Q (s.drop p.length) = true := by
  induction p with
  | nil => intro s; simp
  | cons c p ih =>
    intro s
    have hc : (c == 42) = false := by
      cases q : c == 42 with
      | false => rfl
      | true => exact absurd (by simpa using q : c = 42) fun z => hp (by rw [z]; exact List.mem_cons_self)
    have hp' : 42 ∉ p := fun m => hp (List.mem_cons_of_mem _ m)
    rw [List.cons_append, gmat_one (star := fun c => c == 42) hc]
    constructor
    · rintro ⟨x, s', rfl, e, g⟩
      have e : c = x := by simpa using e
      subst e
      obtain ⟨g1, g2⟩ := (ih hp').mp g
      exact ⟨by simp [g1], by simpa using g2⟩
    · rintro ⟨h1, h2⟩
      cases s with
      | nil => simp at h1
      | cons x s' =>
        simp only [List.length_cons, List.take_succ_cons, List.cons.injEq] at h1
        rw [h1.1]
        exact ⟨c, s', rfl, by simp, (ih hp').mpr ⟨h1.2, by simpa using h2⟩⟩
theorem gml_plain {p s : List Nat} (hp : 42 ∉ p) : gmL p s = true ↔ p = s := by
  have h := gml_lit (Q := []) hp (s := s)
  rw [List.append_nil] at h
  rw [h]
  constructor
  · rintro ⟨h1, h2⟩
    have h2 : s.drop p.length = [] := by simpa [gmat] using h2
    rw [← List.take_append_drop p.length s, h1, h2, List.append_nil]
  · rintro rfl
    exact ⟨List.take_length, by rw [List.drop_length]; rfl⟩
theorem gml_tail {l : List Nat} (hl : 42 ∉ l) : ∀ {qs : List (List Nat)} {t : List Nat}, (∀ q ∈ qs, 42 ∉ q) → ((∃ k, k ≤ t.length ∧ gmL (J l qs) (t.drop k) = true) ↔ tailM l qs t) := by
  intro qs
  induction qs with
  | nil =>
    intro t _
    unfold tailM J
    constructor
    · rintro ⟨k, hk, g⟩
      exact ⟨k, hk, ((gml_plain hl).mp g).symm⟩
    · rintro ⟨k, hk, e⟩
      exact ⟨k, hk, (gml_plain hl).mpr e.symm⟩
  | cons q qs ih =>
    intro t hq
    have h1 := hq q List.mem_cons_self
    unfold tailM J
    constructor
    · rintro ⟨k, hk, g⟩
      obtain ⟨g1, g2⟩ := (gml_lit h1).mp g
      refine ⟨k, hk, g1, (ih fun q m => hq q (List.mem_cons_of_mem _ m)).mp ?_⟩
      rw [List.drop_drop] at g2
      exact (gmat_star (star := fun c => c == 42) rfl).mp g2
    · rintro ⟨k, hk, g1, r⟩
      refine ⟨k, hk, (gml_lit h1).mpr ⟨g1, ?_⟩⟩
      rw [List.drop_drop]
      exact (gmat_star (star := fun c => c == 42) rfl).mpr ((ih fun q m => hq q (List.mem_cons_of_mem _ m)).mpr r)
theorem gml_whole {f l s : List Nat} {qs : List (List Nat)} (hf : 42 ∉ f) (hl : 42 ∉ l) (hq : ∀ q ∈ qs, 42 ∉ q) : gmL (f ++ 42 :: J l qs) s = true ↔ s.take f.length = f ∧ tailM l qs (s.drop f.length) := by
  rw [gml_lit hf, gmat_star (star := fun c => c == 42) rfl, gml_tail hl hq]
theorem spl_star : ∀ (x acc : List Nat), 42 ∉ acc → (TL.spl [42] 0 acc x = [acc ++ x] ∧ 42 ∉ x) ∨ ∃ f qs l, TL.spl [42] 0 acc x = f :: qs ++ [l] ∧ acc ++ x = f ++ 42 :: J l qs ∧ 42 ∉ f ∧ 42 ∉ l ∧ ∀ q ∈ qs, 42 ∉ q
  | [], acc, _ => .inl ⟨by rw [List.append_nil]; rfl, by simp⟩
  | c :: r, acc, ha => by
    by_cases hc : c = 42
    · subst hc
      have e : TL.spl [42] 0 acc (42 :: r) = acc :: TL.spl [42] 0 [] r := by
        rw [TL.spl]
        exact if_pos rfl
      rw [e]
      right
      rcases spl_star r [] (by simp) with ⟨e1, n1⟩ | ⟨f, qs, l, e1, e2, n1, n2, n3⟩
      · exact ⟨acc, [], r, by rw [e1]; rfl, rfl, ha, n1, by simp⟩
      · refine ⟨acc, f :: qs, l, by rw [e1]; rfl, ?_, ha, n2, fun q m => ?_⟩
        · show acc ++ 42 :: r = acc ++ 42 :: (f ++ 42 :: J l qs)
          rw [← e2]
          rfl
        · rcases List.mem_cons.mp m with rfl | m
          · exact n1
          · exact n3 q m
    · have e : TL.spl [42] 0 acc (c :: r) = TL.spl [42] 0 (acc ++ [c]) r := by
        rw [TL.spl]
        refine if_neg fun z => hc ?_
        have z : ([c] == [42]) = true := z
        simpa using z
      rw [e]
      rcases spl_star r (acc ++ [c]) (by simp [ha]; exact fun z => hc z.symm) with ⟨e1, n1⟩ | ⟨f, qs, l, e1, e2, n⟩
      · exact .inl ⟨by rw [e1, List.append_assoc]; rfl, by simp [n1]; exact fun z => hc z.symm⟩
      · exact .inr ⟨f, qs, l, e1, by rw [← e2, List.append_assoc]; rfl, n⟩
end Vi

set_option Elab.async false
set_option linter.all false
set_option autoImplicit false
set_option maxRecDepth 100000
set_option maxHeartbeats 1000000
namespace Vi
open PySem PySem.Spec PyProof.Rows L2
open scoped Classical
local macro_rules | `(tactic| walk_at "x1") => `(tactic| with_reducible first
  | refine x_bin ?_ | refine x_tst ?_ | refine x_oB ?_ | refine x_c ?_ | refine s_seqA ?_ | refine s_seqU ?_ | refine s_seqE ?_ | refine s_seqN ?_ | refine s_asg' ?_ | refine s_if' ?_ | refine s_ret' ?_ | refine s_exp' ?_ | refine s_next ?_ | refine s_retN' ?_ | refine s_sub' ?_
  | refine x_cb ?_ | refine x_cons ?_ | refine x_nil ?_ | refine x_call ?_ | refine x_met ?_ | refine x_un ?_ | refine x_notT ?_ | refine x_andT ?_ | refine x_orT ?_ | refine x_and ?_ | refine x_or ?_ | refine x_not ?_ | refine x_if ?_
  | refine x_tup ?_ | refine x_lst ?_ | refine x_cel ?_ | refine x_sl ?_ | refine x_noP ?_ | refine x_part ?_ | refine x_oI ?_ | refine x_mI ?_ | refine x_rng ?_ | refine x_yes ?_ | refine x_fun ?_ | refine x_ok ?_)
local macro_rules | `(tactic| walk_at "x2") => `(tactic| first
  | ((with_reducible refine y_var ?_); refine ⟨_, rfl, ?_⟩)
  | ((with_reducible refine y_some ?_); refine ⟨_, rfl, ?_⟩)
  | ((with_reducible refine y_gP ?_); refine ⟨_, rfl, ?_⟩))
local macro_rules | `(tactic| walk_at "x") => `(tactic| repeat (first | walk_at "x1" | walk_at "x2" ))
local macro_rules | `(tactic| walk_at "nx") => `(tactic| (refine next_k (by assumption) (by assumption) (by first | decide | omega) (by first | decide | omega) ?_))
theorem gm_eq {a b : Bool} (h : a = true ↔ b = true) : a = b := Bool.eq_iff_iff.mpr h
section
variable {h : Hap} {P : D → Hap → Prop}
theorem starts_tl {x y : Str} : Txt.startswith x y = true ↔ (TL.tl x).take (TL.tl y).length = TL.tl y := by
  have hx := TL.len_tl x
  have hy := TL.len_tl y
  unfold Txt.startswith
  rw [StrLaws.subAt_eq, List.drop_zero, Bool.and_eq_true, decide_eq_true_iff]
  show _ ∧ ((TL.tl x).take y.length == TL.tl y) = true ↔ _
  rw [beq_iff_eq, hy]
  constructor
  · exact fun h => h.2
  · intro h
    refine ⟨?_, h⟩
    have := congrArg List.length h
    rw [List.length_take] at this
    omega
theorem ends_tl {x y : Str} : Txt.endswith x y = true ↔ (TL.tl y).length ≤ (TL.tl x).length ∧ (TL.tl x).drop ((TL.tl x).length - (TL.tl y).length) = TL.tl y := by
  unfold Txt.endswith
  rw [StrLaws.subAt_eq, Bool.and_eq_true, decide_eq_true_iff]
  show _ ∧ (((TL.tl x).drop (x.length - y.length)).take y.length == TL.tl y) = true ↔ _
  rw [beq_iff_eq, TL.len_tl x, TL.len_tl y]
  constructor
  · rintro ⟨h1, h2⟩
    refine ⟨by omega, ?_⟩
    rw [List.take_of_length_le (by rw [List.length_drop]; omega)] at h2
    exact h2
  · rintro ⟨h1, h2⟩
    exact ⟨by omega, by rw [h2, List.take_length]⟩
theorem at_tl {x y : Str} {i : Nat} : StrLaws.At x y x.length i ↔ AtL (TL.tl x) (TL.tl y) i := by
  unfold StrLaws.At AtL
  rw [StrLaws.subAt_eq]
  show _ ∧ (((TL.tl x).drop i).take y.length == TL.tl y) = true ↔ _
  rw [beq_iff_eq, TL.len_tl x, TL.len_tl y]
theorem find3_tl (x y : Str) (i : Nat) (hi : i ≤ x.length) : (Txt.find3 x y i = -1 ∧ ∀ v, i ≤ v → ¬ AtL (TL.tl x) (TL.tl y) v) ∨ ∃ k : Nat, Txt.find3 x y i = (k : Int) ∧ i ≤ k ∧ AtL (TL.tl x) (TL.tl y) k ∧ ∀ v, i ≤ v → v < k → ¬ AtL (TL.tl x) (TL.tl y) v := by
  unfold Txt.find3
  have e : fromIndex x.length (i : Int) = i := by
    show (max 0 (if (i : Int) < 0 then (i : Int) + x.length else i)).toNat = i
    rw [if_neg (by omega)]
    omega
  rw [e]
  rcases StrLaws.occ_head_from x y i 1 (Nat.le_refl 1) with ⟨h0, hn⟩ | ⟨k, r, h0, hlo, hk, hn⟩
  · rw [h0]
    exact .inl ⟨rfl, fun v h1 h2 => hn v h1 (at_tl.mpr h2)⟩
  · rw [h0]
    exact .inr ⟨k, rfl, hlo, at_tl.mp hk, fun v h1 h2 h3 => hn v h1 h2 (at_tl.mpr h3)⟩
theorem v_ixL {xs : List D} {i : Int} {d : D} (e : atI xs i = some d) (p : P d h) : Sat (ofO (dIx (.lst xs) (.int i) h) h) P := x_some e p
theorem atI_last {α : Type} {xs : List α} {l : α} : atI (xs ++ [l]) (-1) = some l := by
  unfold atI ixN
  simp
  rw [if_pos (by omega)]
  simp [show (-1 + ((xs.length : Int) + 1)).toNat = xs.length by omega]
theorem cutX_mid {α : Type} {f l : α} {m : List α} : cutX (f :: (m ++ [l])) (some 1) (some (-1)) = m := by
  have h1 : HT.sIx (f :: (m ++ [l])).length 0 (some 1) = 1 := by
    have := HT.sIx_nat (f :: (m ++ [l])).length 0 1
    rw [List.length_cons] at this
    rw [List.length_cons]
    refine Eq.trans this ?_
    omega
  have h2 : HT.sIx (f :: (m ++ [l])).length (f :: (m ++ [l])).length (some (-1)) = m.length + 1 := by
    show (if (-1 : Int) < 0 then (-1 + (((f :: (m ++ [l])).length : Nat) : Int)).toNat else min (-1 : Int).toNat (f :: (m ++ [l])).length) = _
    rw [if_pos (by decide), List.length_cons, List.length_append, List.length_singleton]
    omega
  unfold cutX
  rw [h1, h2]
  simp
theorem splitS_len {z p : Str} (m : p ∈ Txt.split z "*") : p.length ≤ z.length := by
  have e := TL.split_spl z "*" (by decide) (TL.kind_ok (by decide +kernel))
  have m2 : TL.tl p ∈ (Txt.split z "*").map TL.tl := List.mem_map.mpr ⟨p, m, rfl⟩
  rw [e] at m2
  have := spl_len _ _ _ _ _ m2
  rw [TL.len_tl p, TL.len_tl z]
  simpa using this
theorem match_piece_k {p s : Str} (hp : p.length ≤ 1000000) (hs : s.length ≤ 1000000) (k : P (.bl (gmL (TL.tl p) (TL.tl s))) h) : Sat (Mi.m_match_piece [.str p, .str s] h) P := by
  have e := TL.split_spl p "*" (by decide) (TL.kind_ok (by decide +kernel))
  have e42 : TL.tl "*" = [42] := by decide +kernel
  rw [e42] at e
  unfold Mi.m_match_piece Mi.b_match_piece
  walk_at "x"
  refine ⟨rfl, ?_⟩
  walk_at "x"
  refine v_split ⟨by decide, by rw [sizeLine_eq]; omega⟩ ?_
  generalize hw : Txt.split p "*" = ps at *
  rcases spl_star (TL.tl p) [] (by simp) with ⟨e1, n1⟩ | ⟨f, qs, l, e1, e2, n1, n2, n3⟩
  · rw [e1] at e
    have hl := congrArg List.length e
    rw [List.length_map] at hl
    have hl : ps.length = 1 := hl
    refine s_seq ?_
    walk_at "x"
    rw [List.length_map, hl]
    refine ⟨fun _ => ?_, fun z => ?_⟩
    · walk_at "x"
      have : decide (p = s) = gmL (TL.tl p) (TL.tl s) := gm_eq (by
        rw [decide_eq_true_iff, gml_plain n1]
        exact ⟨fun z => by rw [z], fun z => TL.ext_tl z⟩)
      rw [this]
      exact k
    · exact absurd z (by decide)
  · rw [e1] at e
    rw [List.nil_append] at e2
    obtain ⟨pf, r, rfl⟩ : ∃ pf r, ps = pf :: r := by
      cases ps with
      | nil => cases e
      | cons a b => exact ⟨a, b, rfl⟩
    rw [List.map_cons, List.cons_append] at e
    injection e with e3 e4
    obtain ⟨pm, pl, rfl⟩ : ∃ pm pl, r = pm ++ [pl] := ⟨r.dropLast, r.getLast (by rintro rfl; simp at e4), (List.dropLast_concat_getLast _).symm⟩
    rw [List.map_append] at e4
    obtain ⟨e5, e6⟩ := List.append_inj' e4 rfl
    injection e6 with e6
    subst e3 e5 e6
    have hlen : ¬ (((pf :: (pm ++ [pl])).map D.str).length : Int) = 1 := by simp; omega
    have hpf : pf.length ≤ p.length := by
      have := congrArg List.length e2
      rw [List.length_append, TL.len_tl p, TL.len_tl pf] at *
      omega
    have hpl : pl.length ≤ 1000000 := by
      have := @splitS_len p pl (by rw [hw]; simp)
      omega
    have hpm : ∀ q ∈ pm, q.length ≤ 1000000 := fun q m => by
      have := @splitS_len p q (by rw [hw]; simp [m])
      omega
    have fin : ¬ ((TL.tl s).take (TL.tl pf).length = TL.tl pf ∧ tailM (TL.tl pl) (pm.map TL.tl) ((TL.tl s).drop (TL.tl pf).length)) → P (.bl false) h := fun z => by
      have : gmL (TL.tl p) (TL.tl s) = false := by
        rw [e2]
        exact Bool.eq_false_iff.mpr fun y => z ((gml_whole n1 n2 n3).mp y)
      rw [← this]
      exact k
    refine s_seq ?_
    walk_at "x"
    refine ⟨fun z => absurd (of_decide_eq_true z) hlen, fun _ => ?_⟩
    walk_at "x"
    refine v_ixL (d := .str pf) (by simp [atI, ixN]; rw [if_pos (by omega)]; rfl) ?_
    walk_at "x"
    refine v_ixL (d := .str pl) (by rw [List.map_cons, List.map_append]; exact atI_last (xs := D.str pf :: pm.map D.str)) ?_
    walk_at "x"
    refine s_seq ?_
    walk_at "x"
    refine ⟨rfl, ?_⟩
    walk_at "x"
    refine ⟨fun z => ?_, fun z => ?_⟩
    · walk_at "x"
      refine ⟨fun _ => ?_, fun z => (nomatch z)⟩
      walk_at "x"
      refine fin fun y => ?_
      have := starts_tl.mpr y.1
      rw [this] at z
      cases z
    have hst : Txt.startswith s pf = true := by simpa using z
    have hst2 := starts_tl.mp hst
    refine ⟨fun z => ?_, fun z => ?_⟩
    · walk_at "x"
      refine fin fun y => ?_
      have := ends_tl.mpr (tail_ends y.2)
      rw [this] at z
      cases z
    have hen : Txt.endswith s pl = true := by simpa using z
    have hen2 := ends_tl.mp hen
    have lx := TL.len_tl s
    have lpf := TL.len_tl pf
    have lpl := TL.len_tl pl
    have hfs : pf.length ≤ s.length := by
      have := congrArg List.length hst2
      rw [List.length_take] at this
      omega
    walk_at "x"
    refine v_lens (sl_le (by omega)) ?_
    walk_at "x"
    refine v_lens (sl_le (by omega)) ?_
    walk_at "x"
    refine v_lens (sl_le (by omega)) ?_
    walk_at "x"
    have key : gmL (TL.tl p) (TL.tl s) = true ↔ tailM (TL.tl pl) (pm.map TL.tl) ((TL.tl s).drop pf.length) := by
      rw [e2, gml_whole n1 n2 n3, lpf]
      exact ⟨fun z => z.2, fun z => ⟨by rw [← lpf]; exact hst2, z⟩⟩
    refine s_seq (s_forI (fun pre post e h' => h' = h ∧ ∃ (a : Nat) (x7 x8 : Option D) (qs : List Str), e = [some (.str p), some (.str s), some (.lst ((pf :: (pm ++ [pl])).map .str)), some (.str pf), some (.str pl), some (.int a), some (.int ((s.length : Int) - pl.length)), x7, x8] ∧
      post = qs.map .str ∧ (∀ q ∈ qs, q ∈ pm) ∧ a ≤ s.length ∧ (gmL (TL.tl p) (TL.tl s) = true ↔ tailM (TL.tl pl) (qs.map TL.tl) ((TL.tl s).drop a))) ?_)
    walk_at "x"
    have hseq : ∀ h', seqOf (.lst (cutX ((pf :: (pm ++ [pl])).map D.str) (some 1) (some (-1)))) h' = some (pm.map .str) := fun h' => by
      rw [List.map_cons, List.map_append]
      exact congrArg some (cutX_mid (f := D.str pf) (l := D.str pl) (m := pm.map D.str))
    refine ⟨pm.map .str, hseq h, ⟨rfl, pf.length, _, _, pm, rfl, rfl, fun _ m => m, hfs, key⟩, fun _ _ _ h' _ _ => hseq h', ?_, ?_⟩
    · rintro pre x post e _ hx ⟨rfl, a, x7, x8, qs, rfl, hq, hm, ha, kk⟩
      cases qs with
      | nil => cases hq
      | cons q qs =>
        injection hq with q1 q2
        subst q1 q2
        refine ⟨_, rfl, ?_⟩
        walk_at "x"
        refine ⟨rfl, ?_⟩
        walk_at "x"
        have hmq := hpm q (hm q List.mem_cons_self)
        have lq := TL.len_tl q
        have hfi := find3_tl s q a ha
        generalize Txt.find3 s q (a : Int) = fi at hfi
        refine s_seq ?_
        walk_at "x"
        refine ⟨fun z => ?_, fun z => ?_⟩
        · rcases hfi with ⟨f1, f2⟩ | ⟨i, f1, f2, f3, f4⟩
          · walk_at "x"
            have : gmL (TL.tl p) (TL.tl s) = false := Bool.eq_false_iff.mpr fun y => tail_none (by omega) f2 (kk.mp y)
            rw [← this]
            exact k
          · exact absurd (of_decide_eq_true z) (by omega)
        · rcases hfi with ⟨f1, f2⟩ | ⟨i, f1, f2, f3, f4⟩
          · exact absurd z (by rw [f1]; decide)
          · subst f1
            walk_at "x"
            refine v_lens (sl_le (by omega)) ?_
            walk_at "x"
            refine ⟨rfl, i + q.length, _, _, qs, rfl, rfl, fun y m => hm y (List.mem_cons_of_mem _ m), by have := f3.1; omega, ?_⟩
            rw [kk, List.map_cons, tail_found (by omega) f2 f3 f4, lq]
    · rintro e _ ⟨rfl, a, x7, x8, qs, rfl, hq, hm, ha, kk⟩
      have : qs = [] := by
        cases qs with
        | nil => rfl
        | cons q qs => cases hq
      subst this
      walk_at "x"
      have : decide ((a : Int) ≤ (s.length : Int) - pl.length) = gmL (TL.tl p) (TL.tl s) := gm_eq (by
        rw [decide_eq_true_iff, kk, List.map_nil, tail_end (by omega) hen2.1 hen2.2]
        omega)
      rw [← this] at k
      exact k
end
end Vi

set_option Elab.async false
set_option linter.all false
set_option autoImplicit false
set_option maxRecDepth 100000
set_option maxHeartbeats 1000000
namespace Vi
open PySem PySem.Spec PyProof.Rows L2
open scoped Classical
local macro_rules | `(tactic| walk_at "x1") => `(tactic| with_reducible first
  | refine x_bin ?_ | refine x_tst ?_ | refine x_oB ?_ | refine x_c ?_ | refine s_seqA ?_ | refine s_seqU ?_ | refine s_seqE ?_ | refine s_seqN ?_ | refine s_asg' ?_ | refine s_if' ?_ | refine s_ret' ?_ | refine s_exp' ?_ | refine s_next ?_ | refine s_retN' ?_ | refine s_sub' ?_
  | refine x_cb ?_ | refine x_cons ?_ | refine x_nil ?_ | refine x_call ?_ | refine x_met ?_ | refine x_un ?_ | refine x_notT ?_ | refine x_andT ?_ | refine x_orT ?_ | refine x_and ?_ | refine x_or ?_ | refine x_not ?_ | refine x_if ?_
  | refine x_tup ?_ | refine x_lst ?_ | refine x_cel ?_ | refine x_sl ?_ | refine x_noP ?_ | refine x_part ?_ | refine x_oI ?_ | refine x_mI ?_ | refine x_rng ?_ | refine x_yes ?_ | refine x_fun ?_ | refine x_ok ?_)
local macro_rules | `(tactic| walk_at "x2") => `(tactic| first
  | ((with_reducible refine y_var ?_); refine ⟨_, rfl, ?_⟩)
  | ((with_reducible refine y_some ?_); refine ⟨_, rfl, ?_⟩)
  | ((with_reducible refine y_gP ?_); refine ⟨_, rfl, ?_⟩))
local macro_rules | `(tactic| walk_at "x") => `(tactic| repeat (first | walk_at "x1" | walk_at "x2" ))
local macro_rules | `(tactic| walk_at "nx") => `(tactic| (refine next_k (by assumption) (by assumption) (by first | decide | omega) (by first | decide | omega) ?_))
def tab (r : Nat → Bool) (n : Nat) : List D := (List.range n).map fun j => .bl (r j)
theorem tab_len (r : Nat → Bool) (n : Nat) : (tab r n).length = n := by simp [tab]
theorem tab_get {r : Nat → Bool} {n j : Nat} (h : j < n) : (tab r n)[j]? = some (.bl (r j)) := by simp [tab, h]
theorem tab_at {r : Nat → Bool} {n j : Nat} (h : j < n) : atI (tab r n) (j : Int) = some (.bl (r j)) := by
  obtain ⟨x, e, _, e2⟩ := atI_ok (xs := tab r n) (i := (j : Int)) (by omega) (by rw [tab_len]; omega)
  rw [e]
  have e2 : (tab r n)[j]? = some x := by simpa using e2
  rw [tab_get h] at e2
  exact e2.symm
theorem tab_succ (r : Nat → Bool) (n : Nat) : tab r (n + 1) = tab r n ++ [.bl (r n)] := by simp [tab, List.range_succ]
theorem tab_zero (n : Nat) : tab (fun j => j == 0) (n + 1) = .bl true :: List.replicate n (.bl false) := by
  induction n with
  | zero => rfl
  | succ n ih => rw [tab_succ, ih, List.replicate_succ']; rfl
theorem getQ_app {d : D} {h t : Hap} {xs : List D} (e : getQ d h = some xs) : getQ d (h ++ t) = some xs := by
  cases d with
  | ref i =>
    simp only [getQ, getL] at e ⊢
    cases q : h[i]? with
    | none => rw [q] at e; cases e
    | some c =>
      have hl := (List.getElem?_eq_some_iff.mp q).1
      rw [List.getElem?_append_left hl, q]
      rw [q] at e
      exact e
  | _ => exact e
theorem getQ_set {d : D} {h : Hap} {i : Nat} {c : Cel} {xs : List D} (n : d ≠ .ref i) (e : getQ d h = some xs) : getQ d (h.set i c) = some xs := by
  cases d with
  | ref j =>
    simp only [getQ, getL] at e ⊢
    have : i ≠ j := fun z => n (by rw [z])
    rw [List.getElem?_set_ne this]
    exact e
  | _ => exact e
theorem v_ixQ {d y : D} {xs : List D} {i : Int} {h : Hap} {P : D → Hap → Prop} (e : getQ d h = some xs) (e2 : atI xs i = some y) (p : P y h) : Sat (ofO (dIx d (.int i) h) h) P := x_some (by
  unfold dIx
  cases d with
  | str z => simp [getQ, getL] at e
  | _ => simp only []; rw [e]; exact e2) p
theorem gmat_map {α β α' β' : Type} {star : α' → Bool} {one : α' → β' → Bool} (f : α → α') (g : β → β') : ∀ (xs : List α) (ys : List β), gmat star one (xs.map f) (ys.map g) = gmat (fun a => star (f a)) (fun a b => one (f a) (g b)) xs ys
  | [], ys => by
    unfold gmat
    cases ys <;> rfl
  | x :: xs, ys => by
    rw [List.map_cons, gmat_cons, gmat_cons, List.length_map]
    have e : ∀ k, gmat star one (xs.map f) ((ys.map g).drop k) = gmat (fun a => star (f a)) (fun a b => one (f a) (g b)) xs (ys.drop k) := fun k => by rw [← List.map_drop, gmat_map f g xs]
    simp only [e]
    cases ys with
    | nil => rfl
    | cons y ys => simp only [List.map_cons, gmat_map f g xs ys]
/-- the law's table, row by row -/
noncomputable def bFits (st one : ME) : MS := (mSeq (mAsg (mBin dAdd (mLst (mCons (mC (.bl true)) mNil)) (mComp (mI (mVar 1)) [5] (gNm 5) mYes (mC (.bl false)))) (gNm 2))
    (mSeq (mFor (mI (mVar 0)) (gNm 3) (mSeq (mAsg (mCel (mCons (mAnd (mBin dIx (mVar 2) (mC (.int 0))) (mBin dEq (mVar 3) st)) mNil)) (gNm 4))
    (mSeq (mFor (mRng rng1 (mCons (mCB dLen (mCons (mVar 1) mNil)) mNil)) (gNm 5) (mIfS (mTst (mBin dEq (mVar 3) st)) (mExp (mMet "list" gAppend (mVar 4) (mCons (mOr (mBin dIx (mVar 2) (mBin dAdd (mVar 5) (mC (.int 1)))) (mBin dIx (mVar 4) (mVar 5))) mNil))) (mExp (mMet "list" gAppend (mVar 4) (mCons (mAnd (mBin dIx (mVar 2) (mVar 5)) one) mNil)))))
    (mAsg (mVar 4) (gNm 2)))))
    (mRet (mBin dIx (mVar 2) (mCB dLen (mCons (mVar 1) mNil))))))
def Pre (h h' : Hap) : Prop := ∃ t, h' = h ++ t
theorem Pre.trans {a b c : Hap} (p : Pre a b) (q : Pre b c) : Pre a c := by
  obtain ⟨t, rfl⟩ := p
  obtain ⟨u, rfl⟩ := q
  exact ⟨t ++ u, by rw [List.append_assoc]⟩
theorem Pre.refl (a : Hap) : Pre a a := ⟨[], by simp⟩
theorem Pre.get {a b : Hap} (p : Pre a b) {i : Nat} {c : Cel} (e : a[i]? = some c) : b[i]? = some c := by
  obtain ⟨t, rfl⟩ := p
  rw [List.getElem?_append_left (List.getElem?_eq_some_iff.mp e).1]
  exact e
theorem Pre.getQ {a b : Hap} (p : Pre a b) {d : D} {xs : List D} (e : Vi.getQ d a = some xs) : Vi.getQ d b = some xs := by
  obtain ⟨t, rfl⟩ := p
  exact getQ_app e
theorem Pre.set {a b : Hap} (p : Pre a b) {i : Nat} {c : Cel} (hi : a.length ≤ i) : Pre a (b.set i c) := by
  obtain ⟨t, rfl⟩ := p
  exact ⟨t.set (i - a.length) c, by rw [List.set_append_right _ _ hi]⟩
theorem rng_item {n : Nat} {pre post : List D} {x : D} (e : rngL 0 n = pre ++ x :: post) : x = .int (pre.length : Int) ∧ pre.length < n := by
  have hq := congrArg List.length e
  simp only [rngL, List.length_map, List.length_range, List.length_append, List.length_cons] at hq
  have h2 : (rngL 0 n)[pre.length]? = some x := by rw [e]; simp
  have hl : pre.length < n := by omega
  simp [rngL, hl] at h2
  exact ⟨h2.symm, hl⟩
theorem fits_gen {a b : D} {xs ys : List D} {star : D → Bool} {hit1 : D → D → Bool} {st one : ME} {h : Hap} {P : D → Hap → Prop} (hn : ys.length ≤ 1000000) (ha : ∀ h', seqOf a h' = some xs) (hb : ∀ h', seqOf b h' = some ys) (hl : ∀ h', dLen [b] h' = some (.int ys.length))
    (hst : ∀ (env : Env) (h' : Hap) (x : D) (P' : D → Hap → Prop), env[3]? = some (some x) → x ∈ xs → P' (.bl (star x)) h' → Sat (mBin dEq (mVar 3) st env h') P')
    (hone : ∀ (env : Env) (h' : Hap) (x y : D) (k : Nat) (P' : D → Hap → Prop), env[3]? = some (some x) → env[1]? = some (some b) → env[5]? = some (some (.int (k : Int))) → x ∈ xs → ys[k]? = some y → (∀ t, P' (.bl (hit1 x y)) (h' ++ t)) → Sat (one env h') P')
    (k : ∀ t, P (.bl (gmat star hit1 xs ys)) (h ++ t)) : Sat (run 6 (bFits st one) [a, b] h) P := by
  have hrng : ∀ (P' : List D × (Hap → Prop) → Hap → Prop) (env : Env) (h' : Hap), env[1]? = some (some b) → P' (rngL 0 ys.length, fun _ => True) h' → Sat (mRng rng1 (mCons (mCB dLen (mCons (mVar 1) mNil)) mNil) env h') P' := by
    intro P' env h' e p
    refine x_rng ?_
    refine x_cons ?_
    refine x_cb ?_
    refine x_cons ?_
    refine x_var (d := b) e ?_
    refine x_nil ?_
    refine x_some (d := .int ys.length) (hl _) ?_
    with_reducible refine x_nil ?_
    have hj : -(2 ^ 62) ≤ (ys.length : Int) ∧ (ys.length : Int) < 2 ^ 62 := by omega
    unfold rng1
    simp only []
    rw [if_pos hj]
    exact p
  unfold bFits
  walk_at "x"
  refine ⟨sl_le (by decide), ?_⟩
  refine x_compI (fun pre post h' acc => h' = h ∧ acc = List.replicate pre.length (.bl false)) ?_
  walk_at "x"
  refine ⟨ys, hb h, ⟨rfl, rfl⟩, fun _ _ h' _ _ _ => hb h', ?_, ?_⟩
  · rintro pre x post _ acc hx ⟨rfl, rfl⟩
    have hq := congrArg List.length hx
    simp only [List.length_append, List.length_cons] at hq
    refine ⟨_, rfl, x_yes ⟨fun _ => ⟨?_, ?_⟩, fun z => nomatch z⟩⟩
    · rw [sizeLine_eq, List.length_replicate]
      have : ys.length = pre.length + (post.length + 1) := hq
      omega
    · walk_at "x"
      exact ⟨rfl, by rw [List.length_append, List.length_singleton, List.replicate_succ']⟩
  intro h1 acc ⟨e0, e1⟩
  rw [e0, e1]
  refine x_some (d := .lst (tab (fun j => j == 0) (ys.length + 1))) ?_ ?_
  · rw [tab_zero]
    exact if_pos (sl_le (by simp; omega))
  walk_at "x"
  refine s_seq (s_forI (fun pre post e h' => Pre h h' ∧ ∃ (d : D) (x3 x4 x5 : Option D) (r : Nat → Bool), e = [some a, some b, some d, x3, x4, x5] ∧ getQ d h' = some (tab r (ys.length + 1)) ∧ (gmat star hit1 xs ys = true ↔ Vr star hit1 ys r post)) ?_)
  walk_at "x"
  refine ⟨xs, ha h, ⟨⟨[], by simp⟩, _, _, _, _, _, rfl, rfl, vr_init.symm⟩, fun _ _ _ h' _ _ => ha h', ?_, ?_⟩
  · rintro pre x post e h1 hx ⟨hp, d, x3, x4, x5, r, rfl, hd, kk⟩
    have hx : xs = pre ++ x :: post := hx
    have hm : x ∈ xs := by rw [hx]; simp
    refine ⟨_, rfl, ?_⟩
    refine s_cut (fun e h2 => e = [some a, some b, some d, some x, some (.ref h1.length), x5] ∧ h2 = h1 ++ [.lst (tab (nxt (star x) (hit hit1 x ys) r) 1)]) ?_ ?_
    · walk_at "x"
      refine v_ixQ hd (tab_at (j := 0) (by omega)) ?_
      refine ⟨r 0, rfl, fun z => ?_, fun z => ?_⟩
      · refine hst _ _ x _ rfl hm ?_
        walk_at "x"
        refine ⟨sl_le (by simp), rfl, ?_⟩
        have : tab (nxt (star x) (hit hit1 x ys) r) 1 = [.bl (r 0 && star x)] := rfl
        rw [this, z]
        rfl
      · walk_at "x"
        refine ⟨sl_le (by decide), rfl, ?_⟩
        have : tab (nxt (star x) (hit hit1 x ys) r) 1 = [.bl (r 0 && star x)] := rfl
        rw [this, z]
        rfl
    rintro _ _ ⟨rfl, rfl⟩
    have kk2 : gmat star hit1 xs ys = true ↔ Vr star hit1 ys (nxt (star x) (hit hit1 x ys) r) post := kk.trans vr_step.symm
    have hdr : d ≠ .ref h1.length := fun z => by
      rw [z] at hd
      simp only [getQ, getL] at hd
      rw [List.getElem?_eq_none (Nat.le_refl _)] at hd
      cases hd
    generalize hr' : nxt (star x) (hit hit1 x ys) r = r' at *
    refine s_seq (s_forI (fun pre2 post2 e h3 => ∃ x5 : Option D, e = [some a, some b, some d, some x, some (.ref h1.length), x5] ∧ Pre h1 h3 ∧ h3[h1.length]? = some (.lst (tab r' (pre2.length + 1)))) ?_)
    refine hrng _ _ _ rfl ?_
    refine ⟨⟨x5, rfl, ⟨_, rfl⟩, by rw [List.getElem?_append_right (Nat.le_refl _), Nat.sub_self, ← hr']; rfl⟩, fun _ _ _ _ _ _ => trivial, ?_, ?_⟩
    · rintro pre2 y post2 e h3 hx2 ⟨x5, rfl, hp3, hc3⟩
      obtain ⟨rfl, hk2⟩ := rng_item hx2
      have hk2 : pre2.length < ys.length := by simpa using hk2
      refine ⟨_, rfl, ?_⟩
      have hd3 := hp3.getQ hd
      have fin : ∀ (h4 : Hap) (v : Bool), Pre h3 h4 → v = r' (pre2.length + 1) → Sat (gAppend (.ref h1.length) [.bl v] h4) fun _ h5 => Pre h1 h5 ∧ h5[h1.length]? = some (.lst (tab r' ((pre2 ++ [D.int (pre2.length : Int)]).length + 1))) := by
        intro h4 v p4 ev
        have hc4 := p4.get hc3
        unfold gAppend
        simp only []
        rw [hc4]
        simp only []
        rw [if_pos (by rw [tab_len, sizeLine_eq]; omega)]
        refine ⟨(hp3.trans p4).set (Nat.le_refl _), ?_⟩
        rw [List.getElem?_set_self (List.getElem?_eq_some_iff.mp hc4).1, List.length_append, List.length_singleton, tab_succ r' (pre2.length + 1), ev]
      have isl : isT "list" (.ref h1.length) h3 = true := by
        unfold isT
        simp only []
        rw [hc3]
        rfl
      refine s_if' (x_tst (hst _ _ x _ rfl hm ?_))
      refine x_oB ⟨fun z => ?_, fun z => ?_⟩
      · walk_at "x"
        refine ⟨isl, ?_⟩
        walk_at "x"
        refine v_ixQ hd3 (tab_at (j := pre2.length + 1) (by omega)) ?_
        have e1 : r' (pre2.length + 1) = (r (pre2.length + 1) || r' pre2.length) := by
          rw [← hr', nxt, if_pos z]
        refine ⟨r (pre2.length + 1), rfl, fun z2 => ?_, fun z2 => ?_⟩
        · refine x_nil ((fin h3 true (Pre.refl _) (by rw [e1, z2]; rfl)).mono fun _ h5 q => ⟨_, rfl, q⟩)
        · walk_at "x"
          refine v_ixQ (xs := tab r' (pre2.length + 1)) (by simp only [getQ, getL]; rw [hc3]) (tab_at (by omega)) ?_
          refine x_nil ((fin h3 _ (Pre.refl _) (by rw [e1, z2]; rfl)).mono fun _ h5 q => ⟨_, rfl, q⟩)
      · walk_at "x"
        refine ⟨isl, ?_⟩
        walk_at "x"
        refine v_ixQ hd3 (tab_at (j := pre2.length) (by omega)) ?_
        have hy : ys[pre2.length]? = some ys[pre2.length] := List.getElem?_eq_getElem hk2
        have e1 : r' (pre2.length + 1) = (r pre2.length && hit1 x ys[pre2.length]) := by
          rw [← hr', nxt, z]
          simp only [Bool.false_eq_true, if_false]
          unfold hit
          rw [hy]
        refine ⟨r pre2.length, rfl, fun z2 => ?_, fun z2 => ?_⟩
        · refine hone _ _ x ys[pre2.length] pre2.length _ rfl rfl rfl hm hy fun t => ?_
          refine x_nil ((fin (h3 ++ t) _ ⟨t, rfl⟩ (by rw [e1, z2]; rfl)).mono fun _ h5 q => ⟨_, rfl, q⟩)
        · refine x_nil ((fin h3 false (Pre.refl _) (by rw [e1, z2]; rfl)).mono fun _ h5 q => ⟨_, rfl, q⟩)
    · rintro e h3 ⟨x5, rfl, hp3, hc3⟩
      have hl3 : (rngL 0 ys.length).length = ys.length := by simp [rngL]
      have hc3 : h3[h1.length]? = some (.lst (tab r' ((rngL 0 ys.length).length + 1))) := hc3
      rw [hl3] at hc3
      walk_at "x"
      exact ⟨hp.trans hp3, _, _, _, _, _, rfl, by simp only [getQ, getL]; rw [hc3], kk2⟩
  · rintro e h1 ⟨⟨t, rfl⟩, d, x3, x4, x5, r, rfl, hd, kk⟩
    walk_at "x"
    refine x_some (hl _) ?_
    walk_at "x"
    refine v_ixQ hd (tab_at (by omega)) ?_
    have : r ys.length = gmat star hit1 xs ys := gm_eq (by rw [kk, vr_nil])
    rw [this]
    exact k t
end Vi

set_option Elab.async false
set_option linter.all false
set_option autoImplicit false
set_option maxRecDepth 100000
set_option maxHeartbeats 2000000
namespace Vi
open PySem PySem.Spec PyProof.Rows L2
open scoped Classical
local macro_rules | `(tactic| walk_at "x1") => `(tactic| with_reducible first
  | refine x_bin ?_ | refine x_tst ?_ | refine x_oB ?_ | refine x_c ?_ | refine s_seqA ?_ | refine s_seqU ?_ | refine s_seqE ?_ | refine s_seqN ?_ | refine s_asg' ?_ | refine s_if' ?_ | refine s_ret' ?_ | refine s_exp' ?_ | refine s_next ?_ | refine s_retN' ?_ | refine s_sub' ?_
  | refine x_cb ?_ | refine x_cons ?_ | refine x_nil ?_ | refine x_call ?_ | refine x_met ?_ | refine x_un ?_ | refine x_notT ?_ | refine x_andT ?_ | refine x_orT ?_ | refine x_and ?_ | refine x_or ?_ | refine x_not ?_ | refine x_if ?_
  | refine x_tup ?_ | refine x_lst ?_ | refine x_cel ?_ | refine x_sl ?_ | refine x_noP ?_ | refine x_part ?_ | refine x_oI ?_ | refine x_mI ?_ | refine x_rng ?_ | refine x_yes ?_ | refine x_fun ?_ | refine x_ok ?_)
local macro_rules | `(tactic| walk_at "x2") => `(tactic| first
  | ((with_reducible refine y_var ?_); refine ⟨_, rfl, ?_⟩)
  | ((with_reducible refine y_some ?_); refine ⟨_, rfl, ?_⟩)
  | ((with_reducible refine y_gP ?_); refine ⟨_, rfl, ?_⟩))
local macro_rules | `(tactic| walk_at "x") => `(tactic| repeat (first | walk_at "x1" | walk_at "x2" ))
local macro_rules | `(tactic| walk_at "nx") => `(tactic| (refine next_k (by assumption) (by assumption) (by first | decide | omega) (by first | decide | omega) ?_))
theorem ch_eq (a b : Nat) : decide (ch a = ch b) = (a == b) := by
  rw [Bool.eq_iff_iff, decide_eq_true_iff, beq_iff_eq]
  constructor
  · intro h
    have h2 : #[a] = #[b] := congrArg Str.cps h
    simpa using h2
  · rintro rfl
    rfl
theorem sum_le {ys : List Str} {m : Nat} (h : ∀ y ∈ ys, y.length ≤ m) : (ys.map (·.length)).sum ≤ ys.length * m := by
  induction ys with
  | nil => simp
  | cons y ys ih =>
    have h1 := h y List.mem_cons_self
    have h2 := ih fun z hz => h z (List.mem_cons_of_mem _ hz)
    simp only [List.map_cons, List.sum_cons, List.length_cons, Nat.succ_mul]
    omega
section
variable {env : Env} {h : Hap} {Q : Ps}
/-- a while, by a measure and an invariant -/
theorem s_whI {c : MT} {b : MS} (I : Nat → Env → Hap → Prop) (step : ∀ m e h, I m e h → Sat (c e h) fun t h1 => (t = true → SatS (b e h1) ⟨fun e2 h2 => ∃ m', m' < m ∧ I m' e2 h2, Q.r, Q.n, fun e2 h2 => ∃ m', m' < m ∧ I m' e2 h2⟩) ∧ (t = false → Q.n e h1)) :
    ∀ (n m : Nat) (env : Env) (h : Hap), m < n → I m env h → SatS (mWh n c b env h) Q := by
  intro n
  induction n with
  | zero => intro m _ _ hm _; exact absurd hm (by omega)
  | succ n ih =>
    intro m env h hm i
    unfold mWh whL
    refine SatS.of ((step m env h i).mono fun t h1 z => ?_)
    cases t with
    | false => exact z.2 rfl
    | true =>
      have z := z.1 rfl
      rw [if_pos rfl]
      revert z
      cases b env h1 with
      | nx e2 h2 => exact fun z => let ⟨m', a, b⟩ := z; ih m' e2 h2 (by omega) b
      | ct e2 h2 => exact fun z => let ⟨m', a, b⟩ := z; ih m' e2 h2 (by omega) b
      | bk e2 h2 => exact fun z => z
      | rt d h2 => exact fun z => z
      | er => exact fun z => z.elim
      | stuck => exact fun z => z.elim
end
/-! ### tokens -/
abbrev WST : Str := "abcdefghijklmnopqrstuvwxyz"
abbrev WSI : Str := "abcdefghijklmnopqrstuvwxyz0123456789_"
abbrev SGN : Str := "{}[](),;=+"
def wch (c : Nat) : Bool := decide (c ∈ WSI.cps.toList)
def sch (c : Nat) : Bool := decide (c ∈ WST.cps.toList)
def runL (l : List Nat) : Nat := (l.takeWhile wch).length
def qend : List Nat → Option Nat
  | [] => none
  | c :: r => if c = 10 then none else if c = 34 then some 0 else (qend r).map (· + 1)
abbrev sl (z : Str) (i j : Nat) : Str := cutS z (some (i : Int)) (some (j : Int))
/-- kind, value and size; 0: an error -/
def tokC (z : Str) (i c : Nat) : Str × Str × Nat :=
    if sch c = true then (if 20 < runL ((TL.tl z).drop i) then ("error", "", 0) else ("word", sl z i (i + runL ((TL.tl z).drop i)), runL ((TL.tl z).drop i)))
    else if c = 34 then (match qend ((TL.tl z).drop (i + 1)) with
      | none => ("error", "", 0)
      | some k => if 100 < k then ("error", "", 0) else ("text", sl z (i + 1) (i + 1 + k), k + 2))
    else if sl z i (i + 2) = "==" ∨ sl z i (i + 2) = "!=" then ("sign", sl z i (i + 2), 2)
    else if c ∈ SGN.cps.toList then ("sign", ch c, 1)
    else ("error", "", 0)
def tokF (z : Str) (i : Nat) : Str × Str × Nat :=
  match (TL.tl z)[i]? with
  | none => ("error", "", 0)
  | some c => tokC z i c
section
variable {h : Hap} {P : D → Hap → Prop}
theorem at_k {z : Str} {i c : Nat} (hl : z.length ≤ 50000) (hc : (TL.tl z)[i]? = some c) {P : D → Hap → Prop} (k : P (.str (ch c)) h) : Sat (ofO (dIx (.str z) (.int (i : Int)) h) h) P := by
  have hi := (List.getElem?_eq_some_iff.mp hc).1
  obtain ⟨x, a1, _, a2⟩ := atI_ok (xs := z.cps.toList) (i := (i : Int)) (by omega) (by have : i < z.cps.toList.length := hi; omega)
  have a2 : (TL.tl z)[i]? = some x := by simpa using a2
  rw [hc] at a2
  have a2 := Option.some.inj a2
  subst a2
  exact v_ixS (sl_le (by omega)) a1 k
theorem run_step {l : List Nat} {i j c : Nat} (hc : l[i + j]? = some c) (hj : j ≤ runL (l.drop i)) : (wch c = true → j + 1 ≤ runL (l.drop i)) ∧ (wch c = false → j = runL (l.drop i)) := by
  have key : ∀ (l : List Nat) (j c : Nat), l[j]? = some c → j ≤ runL l → (wch c = true → j + 1 ≤ runL l) ∧ (wch c = false → j = runL l) := by
    intro l
    induction l with
    | nil => intro j c hc; simp at hc
    | cons x l ih =>
      intro j c hc hj
      unfold runL at *
      rw [List.takeWhile_cons] at *
      cases j with
      | zero =>
        simp at hc
        subst hc
        constructor
        · intro w; rw [if_pos w]; simp
        · intro w; rw [if_neg (by rw [w]; exact fun z => nomatch z)]; rfl
      | succ j =>
        cases hw : wch x with
        | false => rw [hw] at hj; simp at hj
        | true =>
          rw [hw] at hj
          simp only [if_true, List.length_cons] at hj ⊢
          have := ih j c (by simpa using hc) (by omega)
          exact ⟨fun w => by have := this.1 w; omega, fun w => by have := this.2 w; omega⟩
  exact key (l.drop i) j c (by rw [List.getElem?_drop]; exact hc) hj
theorem run_le (l : List Nat) : runL l ≤ l.length := by
  unfold runL
  exact (List.takeWhile_prefix wch).length_le
theorem word_fin {z : Str} {i j m : Nat} (hm : m = j) (hl : z.length ≤ 50000) (hi : i + j ≤ z.length) (k : P (.tup (if 20 < m then [.str "error", .str "", .int i] else [.str "word", .str (sl z i (i + m)), .int ((i + m : Nat) : Int)])) h) :
    SatS (mSeq (mIfS (mTst (mBin dGt (mBin dSub (mVar 2) (mVar 1)) (mC (.int 20)))) (mRet (mTup (mCons (mC (.str "error")) (mCons (mC (.str "")) (mCons (mVar 1) mNil))))) mNext)
    (mRet (mTup (mCons (mC (.str "word")) (mCons (mSl (mVar 0) (mPart (mVar 1)) (mPart (mVar 2))) (mCons (mVar 2) mNil))))) [some (.str z), some (.int i), some (.int ((i + j : Nat) : Int))] h) ⟨fun _ h => P .non h, P, fun _ _ => False, fun _ _ => False⟩ := by
  subst hm
  refine s_seq ?_
  walk_at "x"
  refine ⟨fun e => ?_, fun e => ?_⟩
  · have e : (20 : Int) < ((i + m : Nat) : Int) - i := of_decide_eq_true e
    rw [if_pos (by omega)] at k
    walk_at "x"
    exact ⟨sl_le (by simp), k⟩
  · have e : ¬ (20 : Int) < ((i + m : Nat) : Int) - i := of_decide_eq_false e
    rw [if_neg (by omega)] at k
    walk_at "x"
    refine v_slS (sl_le (by omega)) ?_
    walk_at "x"
    exact ⟨sl_le (by simp), k⟩
theorem word_at_k {z : Str} {i c : Nat} (hl : z.length ≤ 50000) (hc : (TL.tl z)[i]? = some c) (k : P (.tup (if 20 < runL ((TL.tl z).drop i) then [.str "error", .str "", .int i] else [.str "word", .str (sl z i (i + runL ((TL.tl z).drop i))), .int ((i + runL ((TL.tl z).drop i) : Nat) : Int)])) h) : Sat (Mi.m_word_at [.str z, .int i] h) P := by
  have lz := TL.len_tl z
  have hrl := run_le ((TL.tl z).drop i)
  rw [List.length_drop] at hrl
  have hi := (List.getElem?_eq_some_iff.mp hc).1
  unfold Mi.m_word_at Mi.b_word_at
  walk_at "x"
  refine s_seq (s_whI (fun m e h' => ∃ j : Nat, h' = h ∧ e = [some (.str z), some (.int i), some (.int ((i + j : Nat) : Int))] ∧ j ≤ runL ((TL.tl z).drop i) ∧ m = z.length - (i + j)) ?_ 100000 (z.length - i) _ _ (by omega) ⟨0, rfl, rfl, Nat.zero_le _, rfl⟩)
  rintro m e h' ⟨j, rfl, rfl, hj, rfl⟩
  walk_at "x"
  refine v_lens (sl_le (by omega)) ?_
  walk_at "x"
  refine ⟨fun e => ?_, fun e => ?_⟩
  · have e : ((i + j : Nat) : Int) < z.length := of_decide_eq_true e
    have hj2 : i + j < (TL.tl z).length := by omega
    obtain ⟨c2, hc2⟩ : ∃ c2, (TL.tl z)[i + j]? = some c2 := ⟨_, List.getElem?_eq_getElem hj2⟩
    have hst := run_step hc2 hj
    walk_at "x"
    refine at_k hl hc2 ?_
    walk_at "x"
    refine ⟨fun e => ?_, fun e => ?_⟩
    · have e : wch c2 = true := e
      refine s_aug' rfl (x_c ⟨_, rfl, ?_⟩)
      refine ⟨z.length - (i + (j + 1)), by omega, j + 1, rfl, ?_, hst.1 e, rfl⟩
      show [some (D.str z), some (D.int (i : Int)), some (D.int (((i + j : Nat) : Int) + 1))] = _
      rw [show (((i + j : Nat) : Int) + 1) = ((i + (j + 1) : Nat) : Int) by omega]
    · have e : wch c2 = false := e
      exact word_fin ((hst.2 e).symm) (by omega) (by omega) k
  · refine ⟨fun z => (nomatch z), fun _ => ?_⟩
    have e : ¬ ((i + j : Nat) : Int) < z.length := of_decide_eq_false e
    exact word_fin (by omega) (by omega) (by omega) k
theorem tl_sl (z : Str) (i j : Nat) (hj : j ≤ z.length) : TL.tl (sl z i j) = ((TL.tl z).drop i).take (j - i) := by
  have lz := TL.len_tl z
  show ((TL.tl z).drop (HT.sIx z.length 0 (some (i : Int)))).take (HT.sIx z.length z.length (some (j : Int)) - HT.sIx z.length 0 (some (i : Int))) = _
  rw [HT.sIx_nat, HT.sIx_nat, Nat.min_eq_left hj]
  by_cases h : i ≤ z.length
  · rw [Nat.min_eq_left h]
  · rw [Nat.min_eq_right (by omega), List.drop_eq_nil_of_le (by omega), List.drop_eq_nil_of_le (by omega), List.take_nil, List.take_nil]
theorem join_chs (cs : List Nat) : TL.tl (Txt.join "" (cs.map ch)) = cs := by
  show TL.tl (Builtin.Str.glued "" (cs.map ch)) = _
  rw [StrLaws.glued_eq_join, TL.tl_join]
  have e0 : TL.tl "" = [] := rfl
  rw [e0, List.map_map]
  induction cs with
  | nil => rfl
  | cons c cs ih =>
    cases cs with
    | nil => rfl
    | cons d cs =>
      show [c] ++ ([] ++ TL.joinL [] ((d :: cs).map _)) = _
      rw [ih]
      rfl
def quoR (z : Str) (i : Nat) : List D := match qend ((TL.tl z).drop (i + 1)) with
  | none => [.str "error", .str "", .int (i : Int)]
  | some k => if 100 < k then [.str "error", .str "", .int (i : Int)] else [.str "text", .str (sl z (i + 1) (i + 1 + k)), .int ((i + k + 2 : Nat) : Int)]
theorem quoted_token_k {v : Str} {i e : Int} (hl : v.length ≤ 50000) (k : P (.tup (if 100 < v.length then [.str "error", .str "", .int i] else [.str "text", .str v, .int e])) h) : Sat (Mi.m_quoted_token [.str v, .int i, .int e] h) P := by
  unfold Mi.m_quoted_token Mi.b_quoted_token
  walk_at "x"
  refine s_seq ?_
  walk_at "x"
  refine v_lens (sl_le (by omega)) ?_
  walk_at "x"
  refine ⟨fun e => ?_, fun e => ?_⟩
  · have e : (100 : Int) < v.length := of_decide_eq_true e
    rw [if_pos (by omega)] at k
    walk_at "x"
    exact ⟨sl_le (by simp), k⟩
  · have e : ¬ (100 : Int) < v.length := of_decide_eq_false e
    rw [if_neg (by omega)] at k
    walk_at "x"
    exact ⟨sl_le (by simp), k⟩
theorem quoted_at_k {z : Str} {i : Nat} (hl : z.length ≤ 50000) (hb : 92 ∉ TL.tl z) (hi : i < z.length) (k : ∀ t, P (.tup (quoR z i)) (h ++ t)) : Sat (Mi.m_quoted_at [.str z, .int i] h) P := by
  have lz := TL.len_tl z
  have fin : ∀ cel, quoR z i = [.str "error", .str "", .int (i : Int)] → ∀ (x2 x3 : Option D), SatS (mRet (mTup (mCons (mC (.str "error")) (mCons (mC (.str "")) (mCons (mVar 1) mNil)))) [some (.str z), some (.int i), x2, x3] (h ++ [cel])) ⟨fun _ h => P .non h, P, fun _ _ => False, fun _ _ => False⟩ := by
    intro cel e x2 x3
    have k := k [cel]
    rw [e] at k
    walk_at "x"
    exact ⟨sl_le (by simp), k⟩
  unfold Mi.m_quoted_at Mi.b_quoted_at
  walk_at "x"
  refine ⟨sl_le (by decide), ?_⟩
  walk_at "x"
  refine s_seq (s_whI (fun m e h' => ∃ j : Nat, e = [some (.str z), some (.int i), some (.ref h.length), some (.int ((i + 1 + j : Nat) : Int))] ∧ h' = h ++ [.lst (((((TL.tl z).drop (i + 1)).take j).map ch).map .str)] ∧ i + 1 + j ≤ z.length ∧
    qend ((TL.tl z).drop (i + 1)) = (qend ((TL.tl z).drop (i + 1 + j))).map (· + j) ∧ m = z.length - (i + 1 + j)) ?_ 100000 (z.length - (i + 1)) _ _ (by omega) ⟨0, rfl, rfl, by omega, by simp, rfl⟩)
  rintro m e h' ⟨j, rfl, rfl, hj, hq, rfl⟩
  have hlen : ((((TL.tl z).drop (i + 1)).take j).map ch).length = j := by
    rw [List.length_map, List.length_take, List.length_drop]
    omega
  generalize hcs : ((TL.tl z).drop (i + 1)).take j = cs at *
  walk_at "x"
  refine v_lens (sl_le (by omega)) ?_
  walk_at "x"
  refine ⟨fun e => ?_, fun e => ?_⟩
  · have e : ((i + 1 + j : Nat) : Int) < z.length := of_decide_eq_true e
    have hj2 : i + 1 + j < (TL.tl z).length := by omega
    obtain ⟨c2, hc2⟩ : ∃ c2, (TL.tl z)[i + 1 + j]? = some c2 := ⟨_, List.getElem?_eq_getElem hj2⟩
    have hd : (TL.tl z).drop (i + 1 + j) = c2 :: (TL.tl z).drop (i + 1 + (j + 1)) := by
      rw [List.drop_eq_getElem_cons hj2]
      rw [List.getElem?_eq_getElem hj2] at hc2
      rw [Option.some.inj hc2]
      rfl
    rw [hd] at hq
    have chq : ∀ (d : Nat) (y : Str), y = ch d → decide (ch c2 = y) = (c2 == d) := fun d y e => by rw [e, ch_eq]
    walk_at "x"
    refine at_k hl hc2 ?_
    walk_at "x"
    refine ⟨fun e => ?_, fun e => ?_⟩
    · have e : (!decide (ch c2 = ("\n" : Str))) = true := e
      rw [chq 10 _ (by decide +kernel)] at e
      have h10 : c2 ≠ 10 := by simpa using e
      refine s_seq ?_
      walk_at "x"
      refine at_k hl hc2 ?_
      walk_at "x"
      refine ⟨fun e => ?_, fun e => ?_⟩
      · have e : decide (ch c2 = ("\"" : Str)) = true := e
        rw [chq 34 _ (by decide +kernel)] at e
        have h34 : c2 = 34 := by simpa using e
        subst h34
        have hq : qend ((TL.tl z).drop (i + 1)) = some j := by
          rw [hq, qend, if_neg h10, if_pos rfl]
          simp
        walk_at "x"
        refine ⟨rfl, ?_⟩
        walk_at "x"
        have hsum := sum_le (ys := cs.map ch) (m := 1) fun y m => by
          obtain ⟨c, _, rfl⟩ := List.mem_map.mp m
          exact Nat.le_refl _
        have hse : Str.length "" = 0 := by decide
        have hv : Txt.join "" (cs.map ch) = sl z (i + 1) (i + 1 + j) := TL.ext_tl (by rw [join_chs, tl_sl z _ _ hj, ← hcs]; rw [show i + 1 + j - (i + 1) = j by omega])
        refine v_join (ys := cs.map ch) (by simp only [getQ, getL]; rw [List.getElem?_append_right (Nat.le_refl _), Nat.sub_self]; rfl) (by rw [hse]; omega) ?_
        walk_at "x"
        have hvl : (Txt.join "" (cs.map ch)).length = j := by
          rw [TL.len_tl, join_chs, ← hlen, List.length_map]
        refine quoted_token_k (by omega) ?_
        rw [hvl, hv]
        have k := k [.lst ((cs.map ch).map .str)]
        unfold quoR at k
        rw [hq] at k
        have en : ((i + 1 + j : Nat) : Int) + 1 = ((i + j + 2 : Nat) : Int) := by omega
        have en' : ((i : Int) + 1 + j) + 1 = ((i + j + 2 : Nat) : Int) := by omega
        first
          | rw [en]; exact k
          | rw [en']; exact k
      · have e : decide (ch c2 = ("\"" : Str)) = false := e
        rw [chq 34 _ (by decide +kernel)] at e
        have h34 : c2 ≠ 34 := by simpa using e
        have h92 : c2 ≠ 92 := by
          rintro rfl
          exact hb (List.mem_of_getElem? hc2)
        walk_at "x"
        refine s_seq ?_
        walk_at "x"
        refine at_k hl hc2 ?_
        walk_at "x"
        refine ⟨fun e => ?_, fun e => ?_⟩
        · have e : decide (ch c2 = ("\\" : Str)) = true := e
          rw [chq 92 _ (by decide +kernel)] at e
          exact absurd (by simpa using e) h92
        · walk_at "x"
          refine ⟨by unfold isT; simp only []; rw [List.getElem?_append_right (Nat.le_refl _), Nat.sub_self]; rfl, ?_⟩
          walk_at "x"
          refine at_k hl hc2 ?_
          walk_at "x"
          have hap : gAppend (.ref h.length) [.str (ch c2)] (h ++ [.lst ((cs.map ch).map .str)]) = .ok .non (h ++ [.lst ((((cs ++ [c2])).map ch).map .str)]) := by
            unfold gAppend
            simp only []
            rw [List.getElem?_append_right (Nat.le_refl _), Nat.sub_self]
            show (if ((cs.map ch).map D.str).length < sizeLine then _ else _) = _
            rw [if_pos (by rw [sizeLine_eq, List.length_map]; omega), List.set_append_right _ _ (Nat.le_refl _), Nat.sub_self]
            simp only [List.map_append, List.map_singleton, List.set_cons_zero]
          rw [hap]
          refine x_ok ?_
          dsimp only
          refine s_aug' rfl (x_c ⟨_, rfl, ?_⟩)
          have htk : ((TL.tl z).drop (i + 1)).take (j + 1) = cs ++ [c2] := by
            rw [List.take_add_one, hcs, List.getElem?_drop, hc2]
            rfl
          refine ⟨z.length - (i + 1 + (j + 1)), by omega, j + 1, ?_, by rw [htk], by omega, ?_, rfl⟩
          · show [some (D.str z), some (D.int (i : Int)), some (D.ref h.length), some (D.int (((i + 1 + j : Nat) : Int) + 1))] = _
            rw [show (((i + 1 + j : Nat) : Int) + 1) = ((i + 1 + (j + 1) : Nat) : Int) by omega]
          · rw [hq, qend, if_neg h10, if_neg h34, Option.map_map]
            congr 1
            funext x
            show x + 1 + j = x + (j + 1)
            omega
    · have e : (!decide (ch c2 = ("\n" : Str))) = false := e
      rw [chq 10 _ (by decide +kernel)] at e
      have h10 : c2 = 10 := by simpa using e
      refine fin (.lst ((cs.map ch).map .str)) ?_ (some (.ref h.length)) (some (.int ((i + 1 + j : Nat) : Int)))
      unfold quoR
      rw [hq, qend, if_pos h10]
      rfl
  · refine ⟨fun z => (nomatch z), fun _ => ?_⟩
    have e : ¬ ((i + 1 + j : Nat) : Int) < z.length := of_decide_eq_false e
    refine fin (.lst ((cs.map ch).map .str)) ?_ (some (.ref h.length)) (some (.int ((i + 1 + j : Nat) : Int)))
    unfold quoR
    rw [hq, List.drop_eq_nil_of_le (by omega)]
    rfl
end
end Vi

set_option Elab.async false
set_option linter.all false
set_option autoImplicit false
set_option maxRecDepth 100000
set_option maxHeartbeats 2000000
namespace Vi
open PySem PySem.Spec PyProof.Rows L2
open scoped Classical
local macro_rules | `(tactic| walk_at "x1") => `(tactic| with_reducible first
  | refine x_bin ?_ | refine x_tst ?_ | refine x_oB ?_ | refine x_c ?_ | refine s_seqA ?_ | refine s_seqU ?_ | refine s_seqE ?_ | refine s_seqN ?_ | refine s_asg' ?_ | refine s_if' ?_ | refine s_ret' ?_ | refine s_exp' ?_ | refine s_next ?_ | refine s_retN' ?_ | refine s_sub' ?_
  | refine x_cb ?_ | refine x_cons ?_ | refine x_nil ?_ | refine x_call ?_ | refine x_met ?_ | refine x_un ?_ | refine x_notT ?_ | refine x_andT ?_ | refine x_orT ?_ | refine x_and ?_ | refine x_or ?_ | refine x_not ?_ | refine x_if ?_
  | refine x_tup ?_ | refine x_lst ?_ | refine x_cel ?_ | refine x_sl ?_ | refine x_noP ?_ | refine x_part ?_ | refine x_oI ?_ | refine x_mI ?_ | refine x_rng ?_ | refine x_yes ?_ | refine x_fun ?_ | refine x_ok ?_)
local macro_rules | `(tactic| walk_at "x2") => `(tactic| first
  | ((with_reducible refine y_var ?_); refine ⟨_, rfl, ?_⟩)
  | ((with_reducible refine y_some ?_); refine ⟨_, rfl, ?_⟩)
  | ((with_reducible refine y_gP ?_); refine ⟨_, rfl, ?_⟩))
local macro_rules | `(tactic| walk_at "x") => `(tactic| repeat (first | walk_at "x1" | walk_at "x2" ))
local macro_rules | `(tactic| walk_at "nx") => `(tactic| (refine next_k (by assumption) (by assumption) (by first | decide | omega) (by first | decide | omega) ?_))
section
variable {h : Hap} {P : D → Hap → Prop}
/-- text[i:i+2] in some texts -/
theorem in_strs {x : Str} {ys : List Str} {h : Hap} : inO (.str x) (.tup (ys.map .str)) h = some (decide (x ∈ ys)) ∧ inO (.str x) (.lst (ys.map .str)) h = some (decide (x ∈ ys)) := by
  have fl : fls (ys.map D.str) = some (ys.map V.str) := by
    induction ys with
    | nil => rfl
    | cons y ys ih => rw [List.map_cons, fls, ih]; rfl
  have e : inV (.str x) (ys.map V.str) = decide (x ∈ ys) := by
    unfold inV
    rw [Bool.eq_iff_iff, List.any_eq_true, decide_eq_true_iff]
    constructor
    · rintro ⟨v, m, q⟩
      obtain ⟨y, m2, rfl⟩ := List.mem_map.mp m
      have q : (y == x) = true := q
      rw [← beq_iff_eq.mp q]
      exact m2
    · intro m
      exact ⟨.str x, List.mem_map.mpr ⟨x, m, rfl⟩, (beq_self_eq_true x : (x == x) = true)⟩
  constructor
  · show (match (D.str x).fl, (getQ (.tup (ys.map .str)) h).bind fls with
      | some x, some xs => some (inV x xs)
      | _, _ => none) = _
    have : (getQ (.tup (ys.map D.str)) h).bind fls = some (ys.map V.str) := fl
    rw [this]
    exact congrArg some e
  · show (match (D.str x).fl, (getQ (.lst (ys.map .str)) h).bind fls with
      | some x, some xs => some (inV x xs)
      | _, _ => none) = _
    have : (getQ (.lst (ys.map D.str)) h).bind fls = some (ys.map V.str) := fl
    rw [this]
    exact congrArg some e
theorem inV_strs {x : Str} {ys : List Str} : inV (.str x) (ys.map V.str) = decide (x ∈ ys) := by
    unfold inV
    rw [Bool.eq_iff_iff, List.any_eq_true, decide_eq_true_iff]
    constructor
    · rintro ⟨v, m, q⟩
      obtain ⟨y, m2, rfl⟩ := List.mem_map.mp m
      have q : (y == x) = true := q
      rw [← beq_iff_eq.mp q]
      exact m2
    · intro m
      exact ⟨.str x, List.mem_map.mpr ⟨x, m, rfl⟩, (beq_self_eq_true x : (x == x) = true)⟩
/-- what token_at answers -/
def tokR (z : Str) (i : Nat) : List D := if (tokF z i).2.2 = 0 then [.str "error", .str "", .int (i : Int)] else [.str (tokF z i).1, .str (tokF z i).2.1, .int ((i + (tokF z i).2.2 : Nat) : Int)]
theorem sch_wch {c : Nat} (h : sch c = true) : wch c = true := by
  have e : WSI.cps.toList = WST.cps.toList ++ "0123456789_".toList.map Char.toNat := by decide +kernel
  unfold sch at h
  unfold wch
  rw [decide_eq_true_iff] at *
  rw [e]
  exact List.mem_append_left _ h
theorem run_pos {l : List Nat} {i c : Nat} (hc : l[i]? = some c) (hs : wch c = true) : 1 ≤ runL (l.drop i) := by
  have := (run_step (i := i) (j := 0) (by simpa using hc) (Nat.zero_le _)).1 hs
  omega
theorem token_at_k {z : Str} {i c : Nat} (hl : z.length ≤ 50000) (hb : 92 ∉ TL.tl z) (hc : (TL.tl z)[i]? = some c) (k : ∀ t, P (.tup (tokR z i)) (h ++ t)) : Sat (Mi.m_token_at [.str z, .int i] h) P := by
  have lz := TL.len_tl z
  have hi := (List.getElem?_eq_some_iff.mp hc).1
  have k0 := k []
  rw [List.append_nil] at k0
  have eF : tokF z i = tokC z i c := by
    unfold tokF
    rw [hc]
  unfold tokC at eF
  unfold Mi.m_token_at Mi.b_token_at
  walk_at "x"
  refine s_seq ?_
  walk_at "x"
  refine at_k hl hc ?_
  walk_at "x"
  refine ⟨fun e => ?_, fun e => ?_⟩
  · have e : sch c = true := e
    walk_at "x"
    refine word_at_k hl hc ?_
    have hp := run_pos hc (sch_wch e)
    rw [if_pos e] at eF
    unfold tokR at k0
    by_cases h20 : 20 < runL ((TL.tl z).drop i)
    · rw [if_pos h20] at eF ⊢
      rw [eF, if_pos rfl] at k0
      exact k0
    · rw [if_neg h20] at eF ⊢
      have hne : ¬ runL ((TL.tl z).drop i) = 0 := by omega
      rw [eF, if_neg hne] at k0
      exact k0
  have e : sch c = false := e
  rw [if_neg (by rw [e]; exact fun z => nomatch z)] at eF
  walk_at "x"
  refine s_seq ?_
  walk_at "x"
  refine at_k hl hc ?_
  walk_at "x"
  have c34 : decide (ch c = ("\"" : Str)) = (c == 34) := by
    have e2 : ("\"" : Str) = ch 34 := by decide +kernel
    rw [e2, ch_eq]
  refine ⟨fun e => ?_, fun e => ?_⟩
  · have e : decide (ch c = ("\"" : Str)) = true := e
    rw [c34, beq_iff_eq] at e
    rw [if_pos e] at eF
    walk_at "x"
    refine quoted_at_k hl hb (by omega) fun t => ?_
    have k := k t
    have : tokR z i = quoR z i := by
      unfold tokR quoR
      rw [eF]
      cases qend ((TL.tl z).drop (i + 1)) with
      | none => rfl
      | some j =>
        by_cases h100 : 100 < j
        · simp only [if_pos h100]; rfl
        · simp only [if_neg h100]
          rw [if_neg (by omega)]
          rfl
    rw [this] at k
    exact k
  have e : decide (ch c = ("\"" : Str)) = false := e
  rw [c34] at e
  rw [if_neg (by simpa using e)] at eF
  walk_at "x"
  refine s_seq ?_
  walk_at "x"
  refine v_slS (sl_le (by omega)) ?_
  walk_at "x"
  have e2 : (((i : Int) + 2) = ((i + 2 : Nat) : Int)) := by omega
  rw [e2]
  have mem2 : decide (sl z i (i + 2) ∈ (["==", "!="] : List Str)) = decide (sl z i (i + 2) = "==" ∨ sl z i (i + 2) = "!=") := by
    simp only [List.mem_cons, List.not_mem_nil, or_false]
  have inv2 : inV (V.str (sl z i (i + 2))) [V.str "==", V.str "!="] = decide (sl z i (i + 2) = "==" ∨ sl z i (i + 2) = "!=") := (inV_strs (ys := ["==", "!="])).trans mem2
  rw [inv2]
  refine ⟨fun e => ?_, fun e => ?_⟩
  · have e := of_decide_eq_true e
    rw [if_pos e] at eF
    walk_at "x"
    refine v_slS (sl_le (by omega)) ?_
    walk_at "x"
    refine ⟨sl_le (by simp), ?_⟩
    unfold tokR at k0
    rw [eF] at k0
    rw [if_neg (show ¬ (2 : Nat) = 0 by decide)] at k0
    exact k0
  have e := of_decide_eq_false e
  rw [if_neg e] at eF
  walk_at "x"
  refine s_seq ?_
  walk_at "x"
  refine at_k hl hc ?_
  walk_at "x"
  refine ⟨fun e => ?_, fun e => ?_⟩
  · have e : decide (c ∈ SGN.cps.toList) = true := e
    rw [if_pos (of_decide_eq_true e)] at eF
    walk_at "x"
    refine at_k hl hc ?_
    walk_at "x"
    refine ⟨sl_le (by simp), ?_⟩
    unfold tokR at k0
    rw [eF] at k0
    rw [if_neg (show ¬ (1 : Nat) = 0 by decide)] at k0
    exact k0
  · have e : decide (c ∈ SGN.cps.toList) = false := e
    rw [if_neg (of_decide_eq_false e)] at eF
    walk_at "x"
    refine ⟨sl_le (by simp), ?_⟩
    unfold tokR at k0
    rw [eF] at k0
    rw [if_pos rfl] at k0
    exact k0
theorem tl_slc (z : Str) (i j : Nat) : TL.tl (sl z i j) = ((TL.tl z).drop i).take (j - i) := by
  by_cases hj : j ≤ z.length
  · exact tl_sl z i j hj
  · have lz := TL.len_tl z
    show ((TL.tl z).drop (HT.sIx z.length 0 (some (i : Int)))).take (HT.sIx z.length z.length (some (j : Int)) - HT.sIx z.length 0 (some (i : Int))) = _
    rw [HT.sIx_nat, HT.sIx_nat, Nat.min_eq_right (by omega : z.length ≤ j)]
    by_cases h : i ≤ z.length
    · rw [Nat.min_eq_left h, List.take_of_length_le (by rw [List.length_drop]; omega), List.take_of_length_le (by rw [List.length_drop]; omega)]
    · rw [Nat.min_eq_right (by omega), List.drop_eq_nil_of_le (by omega), List.drop_eq_nil_of_le (by omega), List.take_nil, List.take_nil]
abbrev S12 : List Str := ["{", "}", "[", "]", "(", ")", ",", ";", "=", "==", "!=", "+"]
theorem sgn_list : SGN.cps.toList = [123, 125, 91, 93, 40, 41, 44, 59, 61, 43] := by decide +kernel
theorem mem12 (x : Str) : x ∈ S12 ↔ (x = "==" ∨ x = "!=") ∨ ∃ d ∈ SGN.cps.toList, x = ch d := by
  rw [sgn_list]
  constructor
  · intro m
    simp only [List.mem_cons, List.not_mem_nil, or_false] at m
    rcases m with rfl | rfl | rfl | rfl | rfl | rfl | rfl | rfl | rfl | rfl | rfl | rfl
    · exact .inr ⟨123, by decide, by decide +kernel⟩
    · exact .inr ⟨125, by decide, by decide +kernel⟩
    · exact .inr ⟨91, by decide, by decide +kernel⟩
    · exact .inr ⟨93, by decide, by decide +kernel⟩
    · exact .inr ⟨40, by decide, by decide +kernel⟩
    · exact .inr ⟨41, by decide, by decide +kernel⟩
    · exact .inr ⟨44, by decide, by decide +kernel⟩
    · exact .inr ⟨59, by decide, by decide +kernel⟩
    · exact .inr ⟨61, by decide, by decide +kernel⟩
    · exact .inl (.inl rfl)
    · exact .inl (.inr rfl)
    · exact .inr ⟨43, by decide, by decide +kernel⟩
  · rintro ((rfl | rfl) | ⟨d, m, rfl⟩)
    · decide +kernel
    · decide +kernel
    · simp only [List.mem_cons, List.not_mem_nil, or_false] at m
      rcases m with rfl | rfl | rfl | rfl | rfl | rfl | rfl | rfl | rfl | rfl
      all_goals decide +kernel
theorem sgn_not {c : Nat} (m : c ∈ SGN.cps.toList) : sch c = false ∧ c ≠ 34 ∧ wch c = false := by
  rw [sgn_list] at m
  simp only [List.mem_cons, List.not_mem_nil, or_false] at m
  rcases m with rfl | rfl | rfl | rfl | rfl | rfl | rfl | rfl | rfl | rfl
  all_goals decide +kernel
theorem bang_not : sch 33 = false ∧ sch 61 = false := by decide +kernel
/-- the two answers of the law's own reading -/
def fstOk (z : Str) (i : Nat) (P : D → Hap → Prop) (h : Hap) : Prop :=
  (((tokF z i).2.2 = 0) → P (.tup [.str "error", .str "", .int 1]) h) ∧
  (∀ n : Nat, (tokF z i).2.2 ≠ 0 → (n = (tokF z i).2.2 ∨ (i + 1 = z.length ∧ n = 2 ∧ (tokF z i).2.2 = 1)) → P (.tup [.str (tokF z i).1, .str (tokF z i).2.1, .int (n : Int)]) h)
theorem wordy_k {c : Nat} (k : P (.bl (wch c)) h) : Sat (Mi.m_law_wordy [.str (ch c)] h) P := by
  unfold Mi.m_law_wordy Mi.b_law_wordy
  walk_at "x"
  exact k
end
end Vi

set_option Elab.async false
set_option linter.all false
set_option autoImplicit false
set_option maxRecDepth 100000
set_option maxHeartbeats 2000000
namespace Vi
open PySem PySem.Spec PyProof.Rows L2
open scoped Classical
local macro_rules | `(tactic| walk_at "x1") => `(tactic| with_reducible first
  | refine x_bin ?_ | refine x_tst ?_ | refine x_oB ?_ | refine x_c ?_ | refine s_seqA ?_ | refine s_seqU ?_ | refine s_seqE ?_ | refine s_seqN ?_ | refine s_asg' ?_ | refine s_if' ?_ | refine s_ret' ?_ | refine s_exp' ?_ | refine s_next ?_ | refine s_retN' ?_ | refine s_sub' ?_
  | refine x_cb ?_ | refine x_cons ?_ | refine x_nil ?_ | refine x_call ?_ | refine x_met ?_ | refine x_un ?_ | refine x_notT ?_ | refine x_andT ?_ | refine x_orT ?_ | refine x_and ?_ | refine x_or ?_ | refine x_not ?_ | refine x_if ?_
  | refine x_tup ?_ | refine x_lst ?_ | refine x_cel ?_ | refine x_sl ?_ | refine x_noP ?_ | refine x_part ?_ | refine x_oI ?_ | refine x_mI ?_ | refine x_rng ?_ | refine x_yes ?_ | refine x_fun ?_ | refine x_ok ?_)
local macro_rules | `(tactic| walk_at "x2") => `(tactic| first
  | ((with_reducible refine y_var ?_); refine ⟨_, rfl, ?_⟩)
  | ((with_reducible refine y_some ?_); refine ⟨_, rfl, ?_⟩)
  | ((with_reducible refine y_gP ?_); refine ⟨_, rfl, ?_⟩))
local macro_rules | `(tactic| walk_at "x") => `(tactic| repeat (first | walk_at "x1" | walk_at "x2" ))
local macro_rules | `(tactic| walk_at "nx") => `(tactic| (refine next_k (by assumption) (by assumption) (by first | decide | omega) (by first | decide | omega) ?_))
theorem qend_none : ∀ {l : List Nat}, 34 ∉ l → qend l = none
  | [], _ => rfl
  | c :: r, h => by
    rw [qend]
    split
    · rfl
    · rw [if_neg (fun z => h (by rw [z]; exact List.mem_cons_self)), qend_none fun m => h (List.mem_cons_of_mem _ m)]
      rfl
theorem qend_at : ∀ {l : List Nat} {k : Nat}, l[k]? = some 34 → (∀ v, v < k → l[v]? ≠ some 34) → qend l = if 10 ∈ l.take k then none else some k
  | [], _, h, _ => by simp at h
  | c :: r, 0, h, _ => by
    have h : c = 34 := by simpa using h
    subst h
    rfl
  | c :: r, k + 1, h, h2 => by
    have h0 : c ≠ 34 := by simpa using h2 0 (Nat.succ_pos _)
    have ih := qend_at (l := r) (k := k) (by simpa using h) fun v hv => by simpa using h2 (v + 1) (by omega)
    rw [qend, List.take_succ_cons]
    by_cases h10 : c = 10
    · rw [if_pos h10, if_pos (by rw [h10]; exact List.mem_cons_self)]
    · rw [if_neg h10, if_neg h0, ih]
      by_cases m : 10 ∈ r.take k
      · rw [if_pos m, if_pos (List.mem_cons_of_mem _ m)]
        rfl
      · rw [if_neg m, if_neg (fun z => by
          rcases List.mem_cons.mp z with z | z
          · exact h10 z.symm
          · exact m z)]
        rfl
section
variable {h : Hap} {P : D → Hap → Prop}
theorem law_first_k {z : Str} {i c : Nat} (hl : z.length ≤ 50000) (hc : (TL.tl z)[i]? = some c) (k : fstOk z i P h) : Sat (Mi.m_law_first [.str z, .int i] h) P := by
  have lz := TL.len_tl z
  have hi := (List.getElem?_eq_some_iff.mp hc).1
  have eF : tokF z i = tokC z i c := by
    unfold tokF
    rw [hc]
  unfold tokC at eF
  unfold fstOk at k
  have e2 : (((i : Int) + 2) = ((i + 2 : Nat) : Int)) := by omega
  have hsl : TL.tl (sl z i (i + 2)) = c :: ((TL.tl z).drop (i + 1)).take 1 := by
    rw [tl_slc, show i + 2 - i = 1 + 1 by omega, List.drop_eq_getElem_cons hi, List.take_succ_cons]
    rw [List.getElem?_eq_getElem hi] at hc
    rw [Option.some.inj hc]
  unfold Mi.m_law_first Mi.b_law_first
  walk_at "x"
  refine x_fun ?_
  unfold Mi.b_law_signs
  walk_at "x"
  refine ⟨sl_le (by decide), ?_⟩
  walk_at "x"
  refine s_seq ?_
  walk_at "x"
  refine v_slS (sl_le (by omega)) ?_
  walk_at "x"
  have s12 : ∀ x : Str, inV (V.str x) [V.str "{", V.str "}", V.str "[", V.str "]", V.str "(", V.str ")", V.str ",", V.str ";", V.str "=", V.str "==", V.str "!=", V.str "+"] = decide (x ∈ S12) := fun x => inV_strs (ys := S12)
  rw [e2, s12]
  have t61 : TL.tl "==" = [61, 61] := by decide +kernel
  have t33 : TL.tl "!=" = [33, 61] := by decide +kernel
  refine ⟨fun e => ?_, fun e => ?_⟩
  · have e : (sl z i (i + 2) = "==" ∨ sl z i (i + 2) = "!=") ∨ ∃ d ∈ SGN.cps.toList, sl z i (i + 2) = ch d := (mem12 _).mp (of_decide_eq_true e)
    walk_at "x"
    refine v_slS (sl_le (by omega)) ?_
    walk_at "x"
    refine ⟨sl_le (by simp), ?_⟩
    rw [e2]
    show P (.tup [.str "sign", .str (sl z i (i + 2)), .int 2]) h
    rcases e with e | ⟨d, m, e⟩
    · have hc0 : sch c = false ∧ c ≠ 34 := by
        rcases e with e | e
        · rw [e, t61] at hsl
          injection hsl with q
          rw [← q]
          decide +kernel
        · rw [e, t33] at hsl
          injection hsl with q
          rw [← q]
          decide +kernel
      rw [if_neg (by rw [hc0.1]; exact fun z => nomatch z), if_neg hc0.2, if_pos e] at eF
      have k2 := k.2 2 (by rw [eF]; exact fun z => (nomatch z)) (.inl (by rw [eF]))
      rw [eF] at k2
      exact k2
    · rw [e] at hsl
      have hsl : [d] = c :: ((TL.tl z).drop (i + 1)).take 1 := hsl
      injection hsl with q1 q2
      subst q1
      have hsn := sgn_not m
      have hlast : i + 1 = z.length := by
        have := congrArg List.length q2
        rw [List.length_take, List.length_drop, List.length_nil] at this
        omega
      have hne : ¬ (sl z i (i + 2) = "==" ∨ sl z i (i + 2) = "!=") := by
        rw [e]
        rintro (z | z)
        · have := congrArg TL.tl z
          rw [t61] at this
          cases this
        · have := congrArg TL.tl z
          rw [t33] at this
          cases this
      rw [if_neg (by rw [hsn.1]; exact fun z => nomatch z), if_neg hsn.2.1, if_neg hne, if_pos m] at eF
      have k2 := k.2 2 (by rw [eF]; exact fun z => (nomatch z)) (.inr ⟨hlast, rfl, by rw [eF]⟩)
      rw [eF] at k2
      rw [e]
      exact k2
  have en := of_decide_eq_false e
  have hne : ¬ (sl z i (i + 2) = "==" ∨ sl z i (i + 2) = "!=") := fun q => en ((mem12 _).mpr (.inl q))
  rw [if_neg hne] at eF
  walk_at "x"
  refine s_seq ?_
  walk_at "x"
  refine at_k hl hc ?_
  walk_at "x"
  rw [s12]
  refine ⟨fun e => ?_, fun e => ?_⟩
  · have e := (mem12 _).mp (of_decide_eq_true e)
    have m : c ∈ SGN.cps.toList := by
      rcases e with (e | e) | ⟨d, m, e⟩
      · have := congrArg TL.tl e
        rw [t61] at this
        cases this
      · have := congrArg TL.tl e
        rw [t33] at this
        cases this
      · have e : [c] = [d] := congrArg TL.tl e
        injection e with e
        rw [e]
        exact m
    have hsn := sgn_not m
    rw [if_neg (by rw [hsn.1]; exact fun z => nomatch z), if_neg hsn.2.1, if_pos m] at eF
    walk_at "x"
    refine at_k hl hc ?_
    walk_at "x"
    refine ⟨sl_le (by simp), ?_⟩
    have k2 := k.2 1 (by rw [eF]; exact fun z => (nomatch z)) (.inl (by rw [eF]))
    rw [eF] at k2
    exact k2
  have en2 := of_decide_eq_false e
  have hns : c ∉ SGN.cps.toList := fun m => en2 ((mem12 _).mpr (.inr ⟨c, m, rfl⟩))
  rw [if_neg hns] at eF
  walk_at "x"
  refine s_seq ?_
  walk_at "x"
  refine at_k hl hc ?_
  walk_at "x"
  have c34 : decide (ch c = ("\"" : Str)) = (c == 34) := by
    have e2 : ("\"" : Str) = ch 34 := by decide +kernel
    rw [e2, ch_eq]
  have err : tokF z i = ((("error" : Str), ("" : Str), (0 : Nat)) : Str × Str × Nat) → P (.tup [.str "error", .str "", .int 1]) h := fun q => k.1 (by rw [q])
  refine ⟨fun e => ?_, fun e => ?_⟩
  · have e : decide (ch c = ("\"" : Str)) = true := e
    rw [c34, beq_iff_eq] at e
    subst e
    rw [if_neg (by decide +kernel), if_pos rfl] at eF
    walk_at "x"
    refine ⟨rfl, ?_⟩
    walk_at "x"
    have e1 : ((i : Int) + 1) = ((i + 1 : Nat) : Int) := by omega
    rw [e1]
    have hf := find3_tl z "\"" (i + 1) (by omega)
    have t34 : TL.tl "\"" = [34] := by decide +kernel
    rw [t34] at hf
    have hat : ∀ v, AtL (TL.tl z) [34] v ↔ (TL.tl z)[v]? = some 34 := fun v => by
      unfold AtL
      constructor
      · rintro ⟨h1, h2⟩
        have h1 : v < (TL.tl z).length := h1
        rw [List.drop_eq_getElem_cons h1] at h2
        have h2 : [(TL.tl z)[v]] = [34] := h2
        injection h2 with h2
        rw [List.getElem?_eq_getElem h1, h2]
      · intro h2
        have h1 := (List.getElem?_eq_some_iff.mp h2).1
        refine ⟨h1, ?_⟩
        rw [List.drop_eq_getElem_cons h1]
        rw [List.getElem?_eq_getElem h1] at h2
        rw [Option.some.inj h2]
        rfl
    generalize Txt.find3 z "\"" ((i + 1 : Nat) : Int) = fi at hf
    refine s_seq ?_
    walk_at "x"
    rcases hf with ⟨rfl, f2⟩ | ⟨q, rfl, f2, f3, f4⟩
    · have hq : qend ((TL.tl z).drop (i + 1)) = none := qend_none fun m => by
        obtain ⟨v, hv⟩ := List.getElem?_of_mem m
        rw [List.getElem?_drop] at hv
        exact f2 (i + 1 + v) (by omega) ((hat _).mpr hv)
      rw [hq] at eF
      refine ⟨fun _ => ⟨fun _ => ?_, fun z => (nomatch z)⟩, fun z => absurd z (by decide)⟩
      walk_at "x"
      exact ⟨sl_le (by simp), err eF⟩
    · have hq34 := (hat q).mp f3
      have hql := (List.getElem?_eq_some_iff.mp hq34).1
      have hq : qend ((TL.tl z).drop (i + 1)) = if 10 ∈ ((TL.tl z).drop (i + 1)).take (q - (i + 1)) then none else some (q - (i + 1)) :=
        qend_at (by rw [List.getElem?_drop, show i + 1 + (q - (i + 1)) = q by omega]; exact hq34) fun v hv => by
          rw [List.getElem?_drop]
          exact fun z => f4 (i + 1 + v) (by omega) (by omega) ((hat _).mpr z)
      refine ⟨fun z => absurd (of_decide_eq_true z) (by omega), fun _ => ?_⟩
      walk_at "x"
      refine v_slS (sl_le (by omega)) ?_
      walk_at "x"
      have h10 : ∀ b, b = decide (10 ∈ (sl z i q).cps.toList) → b = decide (10 ∈ ((TL.tl z).drop (i + 1)).take (q - (i + 1))) := by
        intro b e
        rw [e]
        have e : (sl z i q).cps.toList = 34 :: ((TL.tl z).drop (i + 1)).take (q - (i + 1)) := by
          show TL.tl (sl z i q) = _
          rw [tl_slc, show q - i = (q - (i + 1)) + 1 by omega, List.drop_eq_getElem_cons hi, List.take_succ_cons]
          rw [List.getElem?_eq_getElem hi] at hc
          rw [Option.some.inj hc]
        rw [e, Bool.eq_iff_iff, decide_eq_true_iff, decide_eq_true_iff, List.mem_cons]
        exact ⟨fun z => z.resolve_left (by decide), .inr⟩
      refine ⟨fun e => ?_, fun e => ?_⟩
      · have e := (h10 _ rfl).symm.trans e
        rw [if_pos (of_decide_eq_true e)] at hq
        rw [hq] at eF
        refine ⟨fun _ => ?_, fun z => (nomatch z)⟩
        walk_at "x"
        exact ⟨sl_le (by simp), err eF⟩
      · have e := (h10 _ rfl).symm.trans e
        rw [if_neg (of_decide_eq_false e)] at hq
        rw [hq] at eF
        walk_at "x"
        refine ⟨fun e => ?_, fun e => ?_⟩
        · have e : (101 : Int) < (q : Int) - i := of_decide_eq_true e
          have h100 : 100 < q - (i + 1) := by omega
          simp only [if_pos h100] at eF
          walk_at "x"
          exact ⟨sl_le (by simp), err eF⟩
        · have e : ¬ (101 : Int) < (q : Int) - i := of_decide_eq_false e
          have h100 : ¬ 100 < q - (i + 1) := by omega
          simp only [if_neg h100] at eF
          walk_at "x"
          refine v_slS (sl_le (by omega)) ?_
          walk_at "x"
          refine ⟨sl_le (by simp), ?_⟩
          have k2 := k.2 (q - (i + 1) + 2) (by rw [eF]; exact fun z => (nomatch z)) (.inl (by rw [eF]))
          rw [eF] at k2
          have e3 : ((q : Int) + 1 - i) = ((q - (i + 1) + 2 : Nat) : Int) := by omega
          have e4 : i + 1 + (q - (i + 1)) = q := by omega
          simp only [e4] at k2
          rw [e3]
          rw [e1]
          exact k2
  have e : decide (ch c = ("\"" : Str)) = false := e
  rw [c34] at e
  have hc34 : c ≠ 34 := by simpa using e
  rw [if_neg hc34] at eF
  have hrl := run_le ((TL.tl z).drop i)
  rw [List.length_drop] at hrl
  walk_at "x"
  refine s_cut (fun e h' => h' = h ∧ e = [some (.str z), some (.int i), some (.lst (S12.map .str)), none, some (.int (runL ((TL.tl z).drop i) : Nat))]) ?_ ?_
  · refine s_whI (fun m e h' => ∃ j : Nat, h' = h ∧ e = [some (.str z), some (.int i), some (.lst (S12.map .str)), none, some (.int (j : Int))] ∧ j ≤ runL ((TL.tl z).drop i) ∧ m = z.length - (i + j)) ?_ 100000 (z.length - i) _ _ (by omega) ⟨0, rfl, rfl, Nat.zero_le _, rfl⟩
    rintro m e h' ⟨j, rfl, rfl, hj, rfl⟩
    have ej : ((i : Int) + (j : Int)) = ((i + j : Nat) : Int) := by omega
    walk_at "x"
    refine v_lens (sl_le (by omega)) ?_
    walk_at "x"
    refine ⟨fun e => ?_, fun e => ?_⟩
    · have e : ((i : Int) + (j : Int)) < z.length := of_decide_eq_true e
      have hj2 : i + j < (TL.tl z).length := by omega
      obtain ⟨c2, hc2⟩ : ∃ c2, (TL.tl z)[i + j]? = some c2 := ⟨_, List.getElem?_eq_getElem hj2⟩
      have hst := run_step hc2 hj
      walk_at "x"
      rw [ej]
      refine at_k hl hc2 ?_
      walk_at "x"
      refine wordy_k ?_
      walk_at "x"
      refine ⟨fun e => ?_, fun e => ?_⟩
      · walk_at "x"
        exact ⟨z.length - (i + (j + 1)), by omega, j + 1, rfl, rfl, hst.1 e, rfl⟩
      · exact ⟨rfl, by rw [hst.2 e]⟩
    · refine ⟨fun z => (nomatch z), fun _ => ?_⟩
      have e : ¬ ((i : Int) + (j : Int)) < z.length := of_decide_eq_false e
      have : j = runL ((TL.tl z).drop i) := by omega
      exact ⟨rfl, by rw [this]⟩
  intro e h' ⟨e0, e1⟩
  rw [e0, e1]
  have hpos : sch c = true → 1 ≤ runL ((TL.tl z).drop i) := fun w => run_pos hc (sch_wch w)
  generalize hm : runL ((TL.tl z).drop i) = m at *
  have bad : m = 0 ∨ 20 < m ∨ sch c = false → P (.tup [.str "error", .str "", .int 1]) h := by
    intro w
    refine err ?_
    rw [eF]
    by_cases hs : sch c = true
    · rw [if_pos hs]
      rcases w with w | w | w
      · exact absurd (hpos hs) (by omega)
      · rw [if_pos w]
      · rw [w] at hs
        cases hs
    · rw [if_neg hs]
  refine s_seq ?_
  walk_at "x"
  refine ⟨fun e => ?_, fun e => ?_⟩
  · refine ⟨fun _ => ?_, fun z => (nomatch z)⟩
    have e : (m : Int) = 0 := of_decide_eq_true e
    walk_at "x"
    exact ⟨sl_le (by simp), bad (.inl (by omega))⟩
  walk_at "x"
  refine ⟨fun e => ?_, fun e => ?_⟩
  · refine ⟨fun _ => ?_, fun z => (nomatch z)⟩
    have e : (20 : Int) < m := of_decide_eq_true e
    walk_at "x"
    exact ⟨sl_le (by simp), bad (.inr (.inl (by omega)))⟩
  have h20 : ¬ (20 : Int) < m := of_decide_eq_false e
  walk_at "x"
  refine at_k hl hc ?_
  walk_at "x"
  refine ⟨fun e => ?_, fun e => ?_⟩
  · have e : (!sch c) = true := e
    walk_at "x"
    exact ⟨sl_le (by simp), bad (.inr (.inr (by simpa using e)))⟩
  · have e : (!sch c) = false := e
    have hs : sch c = true := by simpa using e
    have hp := hpos hs
    rw [if_pos hs, if_neg (by omega)] at eF
    walk_at "x"
    refine v_slS (sl_le (by omega)) ?_
    walk_at "x"
    refine ⟨sl_le (by simp), ?_⟩
    have hne0 : (tokF z i).2.2 ≠ 0 := by
      rw [eF]
      show m ≠ 0
      omega
    have k2 := k.2 m hne0 (.inl (by rw [eF]))
    rw [eF] at k2
    have e5 : ((i : Int) + (m : Int)) = ((i + m : Nat) : Int) := by omega
    rw [e5]
    exact k2
end
end Vi

set_option Elab.async false
set_option linter.all false
set_option autoImplicit false
set_option maxRecDepth 100000
set_option maxHeartbeats 2000000
namespace Vi
open PySem PySem.Spec PyProof.Rows L2
open scoped Classical
local macro_rules | `(tactic| walk_at "x1") => `(tactic| with_reducible first
  | refine x_bin ?_ | refine x_tst ?_ | refine x_oB ?_ | refine x_c ?_ | refine s_seqA ?_ | refine s_seqU ?_ | refine s_seqE ?_ | refine s_seqN ?_ | refine s_asg' ?_ | refine s_if' ?_ | refine s_ret' ?_ | refine s_exp' ?_ | refine s_next ?_ | refine s_retN' ?_ | refine s_sub' ?_
  | refine x_cb ?_ | refine x_cons ?_ | refine x_nil ?_ | refine x_call ?_ | refine x_met ?_ | refine x_un ?_ | refine x_notT ?_ | refine x_andT ?_ | refine x_orT ?_ | refine x_and ?_ | refine x_or ?_ | refine x_not ?_ | refine x_if ?_
  | refine x_tup ?_ | refine x_lst ?_ | refine x_cel ?_ | refine x_sl ?_ | refine x_noP ?_ | refine x_part ?_ | refine x_oI ?_ | refine x_mI ?_ | refine x_rng ?_ | refine x_yes ?_ | refine x_fun ?_ | refine x_ok ?_)
local macro_rules | `(tactic| walk_at "x2") => `(tactic| first
  | ((with_reducible refine y_var ?_); refine ⟨_, rfl, ?_⟩)
  | ((with_reducible refine y_some ?_); refine ⟨_, rfl, ?_⟩)
  | ((with_reducible refine y_gP ?_); refine ⟨_, rfl, ?_⟩))
local macro_rules | `(tactic| walk_at "x") => `(tactic| repeat (first | walk_at "x1" | walk_at "x2" ))
local macro_rules | `(tactic| walk_at "nx") => `(tactic| (refine next_k (by assumption) (by assumption) (by first | decide | omega) (by first | decide | omega) ?_))
/-! ### all tokens -/
def lexR (z : Str) : Nat → Nat → Int → Int → List D
  | 0, _, _, _ => []
  | f + 1, a, line, col => match (TL.tl z)[a]? with
    | none => []
    | some c => if c = 10 then lexR z f (a + 1) (line + 1) 1 else if c = 32 then lexR z f (a + 1) line (col + 1)
      else if (tokF z a).2.2 = 0 then [.tup [.str "error", .str "", .int line, .int col]]
      else .tup [.str (tokF z a).1, .str (tokF z a).2.1, .int line, .int col] :: lexR z f (a + (tokF z a).2.2) line (col + (tokF z a).2.2)
theorem lex_fuel {z : Str} : ∀ (f f' a : Nat) (line col : Int), z.length < a + f → z.length < a + f' → lexR z f a line col = lexR z f' a line col
  | 0, f', a, line, col, h, h' => by
    cases f' with
    | zero => rfl
    | succ f' =>
      have lz := TL.len_tl z
      rw [lexR, lexR, List.getElem?_eq_none (by omega)]
  | f + 1, 0, a, line, col, h, h' => by
    have lz := TL.len_tl z
    rw [lexR, lexR, List.getElem?_eq_none (by omega)]
  | f + 1, f' + 1, a, line, col, h, h' => by
    rw [lexR, lexR]
    cases (TL.tl z)[a]? with
    | none => rfl
    | some c =>
      simp only []
      by_cases h10 : c = 10
      · rw [if_pos h10, if_pos h10]
        exact lex_fuel f f' _ _ _ (by omega) (by omega)
      · rw [if_neg h10, if_neg h10]
        by_cases h32 : c = 32
        · rw [if_pos h32, if_pos h32]
          exact lex_fuel f f' _ _ _ (by omega) (by omega)
        · rw [if_neg h32, if_neg h32]
          by_cases h0 : (tokF z a).2.2 = 0
          · rw [if_pos h0, if_pos h0]
          · rw [if_neg h0, if_neg h0, lex_fuel f f' (a + (tokF z a).2.2) line (col + (tokF z a).2.2) (by omega) (by omega)]
def lexA (z : Str) (a : Nat) (line col : Int) : List D := lexR z (z.length + 1 - a) a line col
theorem lexA_end {z : Str} {a : Nat} {line col : Int} (h : z.length ≤ a) : lexA z a line col = [] := by
  have lz := TL.len_tl z
  unfold lexA
  cases z.length + 1 - a with
  | zero => rfl
  | succ f => rw [lexR, List.getElem?_eq_none (by omega)]
theorem lexA_step {z : Str} {a c : Nat} {line col : Int} (h : (TL.tl z)[a]? = some c) : lexA z a line col = if c = 10 then lexA z (a + 1) (line + 1) 1 else if c = 32 then lexA z (a + 1) line (col + 1)
      else if (tokF z a).2.2 = 0 then [.tup [.str "error", .str "", .int line, .int col]]
      else .tup [.str (tokF z a).1, .str (tokF z a).2.1, .int line, .int col] :: lexA z (a + (tokF z a).2.2) line (col + (tokF z a).2.2) := by
  have lz := TL.len_tl z
  have hi := (List.getElem?_eq_some_iff.mp h).1
  have e : lexA z a line col = lexR z (z.length + 1 - (a + 1) + 1) a line col := by
    unfold lexA
    rw [show z.length + 1 - (a + 1) + 1 = z.length + 1 - a by omega]
  rw [e, lexR, h]
  simp only []
  unfold lexA
  by_cases h0 : (tokF z a).2.2 = 0
  · rw [if_pos h0, if_pos h0]
  · rw [if_neg h0, if_neg h0, lex_fuel (z.length + 1 - (a + 1)) (z.length + 1 - (a + (tokF z a).2.2)) (a + (tokF z a).2.2) line (col + (tokF z a).2.2) (by omega) (by omega)]
theorem tok_kind {z : Str} {i : Nat} (h : (tokF z i).2.2 ≠ 0) : (tokF z i).1 ≠ ("error" : Str) := by
  have n1 : ("word" : Str) ≠ "error" := by decide +kernel
  have n2 : ("text" : Str) ≠ "error" := by decide +kernel
  have n3 : ("sign" : Str) ≠ "error" := by decide +kernel
  unfold tokF at *
  cases q : (TL.tl z)[i]? with
  | none => rw [q] at h; exact absurd rfl h
  | some c =>
    rw [q] at h
    simp only [] at h ⊢
    unfold tokC at *
    by_cases h1 : sch c = true
    · rw [if_pos h1] at h ⊢
      by_cases h2 : 20 < runL ((TL.tl z).drop i)
      · rw [if_pos h2] at h; exact absurd rfl h
      · rw [if_neg h2]; exact n1
    · rw [if_neg h1] at h ⊢
      by_cases h3 : c = 34
      · rw [if_pos h3] at h ⊢
        cases q2 : qend ((TL.tl z).drop (i + 1)) with
        | none => rw [q2] at h; exact absurd rfl h
        | some j =>
          rw [q2] at h
          simp only [] at h ⊢
          by_cases h4 : 100 < j
          · rw [if_pos h4] at h; exact absurd rfl h
          · rw [if_neg h4]; exact n2
      · rw [if_neg h3] at h ⊢
        by_cases h5 : sl z i (i + 2) = "==" ∨ sl z i (i + 2) = "!="
        · rw [if_pos h5]; exact n3
        · rw [if_neg h5] at h ⊢
          by_cases h6 : c ∈ SGN.cps.toList
          · rw [if_pos h6]; exact n3
          · rw [if_neg h6] at h; exact absurd rfl h
section
variable {h : Hap} {P : D → Hap → Prop}
theorem app_k {i : Nat} {xs : List D} {y : D} {h0 h1 : Hap} {P : D → Hap → Prop} (hp : Pre h0 h1) (hi : i = h0.length) (e : h1[i]? = some (.lst xs)) (hl : xs.length ≤ 1000000) (k : ∀ h2, Pre h0 h2 → h2[i]? = some (.lst (xs ++ [y])) → P .non h2) : Sat (gAppend (.ref i) [y] h1) P := by
  unfold gAppend
  simp only []
  rw [e]
  simp only []
  rw [if_pos (by rw [sizeLine_eq]; omega)]
  refine k _ (hp.set (by omega)) ?_
  rw [List.getElem?_set_self (List.getElem?_eq_some_iff.mp e).1]
theorem isl_k {i : Nat} {xs : List D} {h1 : Hap} (e : h1[i]? = some (.lst xs)) : isT "list" (.ref i) h1 = true := by
  unfold isT
  simp only []
  rw [e]
  rfl
theorem tokens_k {z : Str} (hl : z.length ≤ 50000) (hb : 92 ∉ TL.tl z) (k : ∀ t, P (.tup (lexA z 0 1 1)) (h ++ t)) : Sat (Mi.m_tokens [.str z] h) P := by
  have lz := TL.len_tl z
  unfold Mi.m_tokens Mi.b_tokens
  walk_at "x"
  refine ⟨sl_le (by decide), ?_⟩
  walk_at "x"
  refine s_cut (fun e h' => ∃ (acc : List D) (x2 x3 x4 x5 x6 x7 : Option D), e = [some (.str z), some (.ref h.length), x2, x3, x4, x5, x6, x7] ∧ Pre h h' ∧ h'[h.length]? = some (.lst acc) ∧ acc = lexA z 0 1 1) ?_ ?_
  · refine s_whI (fun m e h' => ∃ (a : Nat) (line ls : Int) (acc : List D) (x5 x6 x7 : Option D), e = [some (.str z), some (.ref h.length), some (.int (a : Int)), some (.int line), some (.int ls), x5, x6, x7] ∧ Pre h h' ∧ h'[h.length]? = some (.lst acc) ∧ acc.length ≤ a ∧ acc.length ≤ 50000 ∧ acc ++ lexA z a line (a - ls + 1) = lexA z 0 1 1 ∧ m = z.length - a) ?_ 100000 z.length _ _ (by omega) ⟨0, 1, 0, [], _, _, _, rfl, ⟨_, rfl⟩, by rw [List.getElem?_append_right (Nat.le_refl _), Nat.sub_self]; rfl, Nat.le_refl _, Nat.zero_le _, rfl, rfl⟩
    rintro m e h' ⟨a, line, ls, acc, x5, x6, x7, rfl, hp, hcl, hac, hac2, hx, rfl⟩
    walk_at "x"
    refine v_lens (sl_le (by omega)) ?_
    walk_at "x"
    refine ⟨fun e => ?_, fun e => ?_⟩
    · have e : (a : Int) < z.length := of_decide_eq_true e
      obtain ⟨c, hc⟩ : ∃ c, (TL.tl z)[a]? = some c := ⟨_, List.getElem?_eq_getElem (by omega)⟩
      have chq : ∀ (d : Nat) (y : Str), y = ch d → decide (ch c = y) = (c == d) := fun d y e => by rw [e, ch_eq]
      rw [lexA_step hc] at hx
      walk_at "x"
      refine at_k hl hc ?_
      walk_at "x"
      refine ⟨fun e => ?_, fun e => ?_⟩
      · have e : decide (ch c = ("\n" : Str)) = true := e
        rw [chq 10 _ (by decide +kernel)] at e
        have h10 : c = 10 := by simpa using e
        rw [if_pos h10] at hx
        refine s_seq (s_aug' rfl (x_c ⟨_, rfl, ?_⟩))
        dsimp only
        refine s_seq (s_aug' rfl (x_c ⟨_, rfl, ?_⟩))
        walk_at "x"
        refine ⟨z.length - (a + 1), by omega, a + 1, line + 1, (a + 1 : Nat), acc, _, _, _, rfl, hp, hcl, by omega, hac2, ?_, rfl⟩
        have e9 : (((a + 1 : Nat) : Int) - ((a + 1 : Nat) : Int) + 1) = 1 := by omega
        rw [e9]
        exact hx
      · have e : decide (ch c = ("\n" : Str)) = false := e
        rw [chq 10 _ (by decide +kernel)] at e
        have h10 : c ≠ 10 := by simpa using e
        rw [if_neg h10] at hx
        walk_at "x"
        refine at_k hl hc ?_
        walk_at "x"
        refine ⟨fun e => ?_, fun e => ?_⟩
        · have e : decide (ch c = (" " : Str)) = true := e
          rw [chq 32 _ (by decide +kernel)] at e
          have h32 : c = 32 := by simpa using e
          rw [if_pos h32] at hx
          refine s_aug' rfl (x_c ⟨_, rfl, ?_⟩)
          refine ⟨z.length - (a + 1), by omega, a + 1, line, ls, acc, _, _, _, rfl, hp, hcl, by omega, hac2, ?_, rfl⟩
          have e9 : (((a + 1 : Nat) : Int) - ls + 1) = ((a : Int) - ls + 1 + 1) := by omega
          rw [e9]
          exact hx
        · have e : decide (ch c = (" " : Str)) = false := e
          rw [chq 32 _ (by decide +kernel)] at e
          have h32 : c ≠ 32 := by simpa using e
          rw [if_neg h32] at hx
          walk_at "x"
          refine s_asgT (x_call (x_cons (x_var rfl (x_cons (x_var rfl (x_nil (token_at_k hl hb hc fun t => ?_)))))))
          have hpt : Pre h' (h' ++ t) := ⟨t, rfl⟩
          have hcl2 := hpt.get hcl
          have hp2 := hp.trans hpt
          generalize h' ++ t = h2 at hcl2 hp2
          by_cases h0 : (tokF z a).2.2 = 0
          · rw [if_pos h0] at hx
            have er : tokR z a = [.str "error", .str "", .int (a : Int)] := by unfold tokR; rw [if_pos h0]
            rw [er]
            refine ⟨_, rfl, ?_⟩
            walk_at "x"
            refine ⟨isl_k hcl2, ?_⟩
            walk_at "x"
            refine ⟨sl_le (by simp), ?_⟩
            walk_at "x"
            refine app_k hp2 rfl hcl2 (by omega) fun h3 hp3 hcl3 => ?_
            refine s_seq ?_
            walk_at "x"
            refine ⟨fun _ => ?_, fun z => absurd z (by decide +kernel)⟩
            walk_at "x"
            obtain ⟨t3, rfl⟩ := hp3
            refine x_some (d := .tup (acc ++ [.tup [.str "error", .str "", .int line, .int ((a : Int) - ls + 1)]])) (by show (getQ (.ref h.length) _).map D.tup = _; simp only [getQ, getL]; rw [hcl3]; rfl) ?_
            rw [hx]
            exact k t3
          · rw [if_neg h0] at hx
            have er : tokR z a = [.str (tokF z a).1, .str (tokF z a).2.1, .int ((a + (tokF z a).2.2 : Nat) : Int)] := by unfold tokR; rw [if_neg h0]
            have hk := tok_kind h0
            rw [er]
            generalize (tokF z a).2.2 = n at *
            generalize (tokF z a).1 = kd at *
            generalize (tokF z a).2.1 = vl at *
            refine ⟨_, rfl, ?_⟩
            walk_at "x"
            refine ⟨isl_k hcl2, ?_⟩
            walk_at "x"
            refine ⟨sl_le (by simp), ?_⟩
            walk_at "x"
            refine app_k hp2 rfl hcl2 (by omega) fun h3 hp3 hcl3 => ?_
            refine s_seq ?_
            walk_at "x"
            refine ⟨fun z => absurd (of_decide_eq_true z) hk, fun _ => ?_⟩
            walk_at "x"
            refine ⟨z.length - (a + n), by omega, a + n, line, ls, _, _, _, _, rfl, hp3, hcl3, by rw [List.length_append, List.length_singleton]; omega, by rw [List.length_append, List.length_singleton]; omega, ?_, rfl⟩
            rw [List.append_assoc, ← hx]
            have e9 : (((a + n : Nat) : Int) - ls + 1) = ((a : Int) - ls + 1 + (n : Int)) := by omega
            rw [e9]
            rfl
    · have e : ¬ (a : Int) < z.length := of_decide_eq_false e
      rw [lexA_end (by omega), List.append_nil] at hx
      exact ⟨acc, _, _, _, _, _, _, rfl, hp, hcl, hx⟩
  · rintro e h' ⟨acc, x2, x3, x4, x5, x6, x7, rfl, ⟨t, rfl⟩, hcl, hx⟩
    walk_at "x"
    refine x_some (d := .tup acc) (by show (getQ (.ref h.length) _).map D.tup = _; simp only [getQ, getL]; rw [hcl]; rfl) ?_
    rw [hx]
    exact k t
end
end Vi

set_option Elab.async false
set_option linter.all false
set_option autoImplicit false
set_option maxRecDepth 100000
set_option maxHeartbeats 2000000
namespace Vi
open PySem PySem.Spec PyProof.Rows L2
open scoped Classical
local macro_rules | `(tactic| walk_at "x1") => `(tactic| with_reducible first
  | refine x_bin ?_ | refine x_tst ?_ | refine x_oB ?_ | refine x_c ?_ | refine s_seqA ?_ | refine s_seqU ?_ | refine s_seqE ?_ | refine s_seqN ?_ | refine s_asg' ?_ | refine s_if' ?_ | refine s_ret' ?_ | refine s_exp' ?_ | refine s_next ?_ | refine s_retN' ?_ | refine s_sub' ?_
  | refine x_cb ?_ | refine x_cons ?_ | refine x_nil ?_ | refine x_call ?_ | refine x_met ?_ | refine x_un ?_ | refine x_notT ?_ | refine x_andT ?_ | refine x_orT ?_ | refine x_and ?_ | refine x_or ?_ | refine x_not ?_ | refine x_if ?_
  | refine x_tup ?_ | refine x_lst ?_ | refine x_cel ?_ | refine x_sl ?_ | refine x_noP ?_ | refine x_part ?_ | refine x_oI ?_ | refine x_mI ?_ | refine x_rng ?_ | refine x_yes ?_ | refine x_chn ?_ | refine x_fun ?_ | refine x_ok ?_)
local macro_rules | `(tactic| walk_at "x2") => `(tactic| first
  | ((with_reducible refine y_var ?_); refine ⟨_, rfl, ?_⟩)
  | ((with_reducible refine y_some ?_); refine ⟨_, rfl, ?_⟩)
  | ((with_reducible refine y_gP ?_); refine ⟨_, rfl, ?_⟩))
local macro_rules | `(tactic| walk_at "x") => `(tactic| repeat (first | walk_at "x1" | walk_at "x2" ))
local macro_rules | `(tactic| walk_at "nx") => `(tactic| (refine next_k (by assumption) (by assumption) (by first | decide | omega) (by first | decide | omega) ?_))

/-! ### the lexer, by lists of signs -/
def escN (c : Nat) : Option Nat := if c = 34 then some 34 else if c = 92 then some 92 else if c = 110 then some 10 else none
/-- the value of a text behind its first quote, and how many signs stand for it -/
def qv : List Nat → Option (List Nat × Nat)
  | [] => none
  | c :: r => if c = 10 then none else if c = 34 then some ([], 0) else if c = 92 then (match r with
      | [] => none
      | d :: r2 => (escN d).bind fun v => (qv r2).map fun p => (v :: p.1, p.2 + 2))
    else (qv r).map fun p => (c :: p.1, p.2 + 1)
theorem qv_cons (c : Nat) (r : List Nat) : qv (c :: r) = if c = 10 then none else if c = 34 then some ([], 0) else if c = 92 then (match r with
      | [] => none
      | d :: r2 => (escN d).bind fun v => (qv r2).map fun p => (v :: p.1, p.2 + 2))
    else (qv r).map fun p => (c :: p.1, p.2 + 1) := by
  rw [qv.eq_def]
abbrev Tk := Str × List Nat × Nat
abbrev eTk : Tk := ("error", [], 0)
def tokL : List Nat → Tk
  | [] => eTk
  | c :: r => if sch c = true then (if 20 < runL (c :: r) then eTk else ("word", (c :: r).take (runL (c :: r)), runL (c :: r)))
    else if c = 34 then (match qv r with
      | none => eTk
      | some p => if 100 < p.1.length then eTk else ("text", p.1, p.2 + 2))
    else if (c = 61 ∨ c = 33) ∧ r.head? = some 61 then ("sign", [c, 61], 2)
    else if c ∈ SGN.cps.toList then ("sign", [c], 1) else eTk
def mkS (l : List Nat) : Str := ⟨l.toArray⟩
def tkRow (t : Tk) (i : Nat) : List D := if t.2.2 = 0 then [.str "error", .str "", .int (i : Int)] else [.str t.1, .str (mkS t.2.1), .int ((i + t.2.2 : Nat) : Int)]
theorem mkS_tl (z : Str) : mkS (TL.tl z) = z := TL.mk_tl z
theorem kv_esc (d : Nat) : kvGet [("\"", "\""), ("\\", "\\"), ("n", "\n")] (ch d) = (escN d).map ch := by
  have q1 : ("\"" : Str) = ch 34 := by decide +kernel
  have q2 : ("\\" : Str) = ch 92 := by decide +kernel
  have q3 : ("n" : Str) = ch 110 := by decide +kernel
  have q4 : ("\n" : Str) = ch 10 := by decide +kernel
  have inj : ∀ a b : Nat, ch a = ch b ↔ a = b := fun a b => ⟨fun h => by have := ch_eq a b; rw [decide_eq_true h] at this; simpa using this.symm, fun h => by rw [h]⟩
  unfold escN
  rw [q1, q2, q3, q4]
  simp only [kvGet, inj]
  by_cases h1 : d = 34
  · subst h1; rfl
  · rw [if_neg (Ne.symm h1), if_neg h1]
    by_cases h2 : d = 92
    · subst h2; rfl
    · rw [if_neg (Ne.symm h2), if_neg h2]
      by_cases h3 : d = 110
      · subst h3; rfl
      · rw [if_neg (Ne.symm h3), if_neg h3]
        rfl
def qRow (l : List Nat) (i : Nat) : List D := match qv l with
  | none => [.str "error", .str "", .int (i : Int)]
  | some p => if 100 < p.1.length then [.str "error", .str "", .int (i : Int)] else [.str "text", .str (mkS p.1), .int ((i + (p.2 + 2) : Nat) : Int)]
section
variable {h : Hap} {P : D → Hap → Prop}
theorem app_end {xs : List D} {y : D} {P : D → Hap → Prop} (hl : xs.length ≤ 1000000) (k : P .non (h ++ [.lst (xs ++ [y])])) : Sat (gAppend (.ref h.length) [y] (h ++ [.lst xs])) P := by
  unfold gAppend
  simp only []
  rw [List.getElem?_append_right (Nat.le_refl _), Nat.sub_self]
  show Sat (if xs.length < sizeLine then _ else _) _
  rw [if_pos (by rw [sizeLine_eq]; omega), List.set_append_right _ _ (Nat.le_refl _), Nat.sub_self]
  exact k
theorem isl_end {xs : List D} : isT "list" (.ref h.length) (h ++ [.lst xs]) = true := by
  unfold isT
  simp only []
  rw [List.getElem?_append_right (Nat.le_refl _), Nat.sub_self]
  rfl
theorem quoted2_k {z : Str} {i : Nat} (hl : z.length ≤ 50000) (hi : i < z.length) (k : ∀ t, P (.tup (qRow ((TL.tl z).drop (i + 1)) i)) (h ++ t)) : Sat (Mi.m_quoted_at_2 [.str z, .int i] h) P := by
  have lz := TL.len_tl z
  have fin : ∀ cel, qv ((TL.tl z).drop (i + 1)) = none → ∀ (x2 x3 : Option D), SatS (mRet (mTup (mCons (mC (.str "error")) (mCons (mC (.str "")) (mCons (mVar 1) mNil)))) [some (.str z), some (.int i), x2, x3] (h ++ [cel])) ⟨fun _ h => P .non h, P, fun _ _ => False, fun _ _ => False⟩ := by
    intro cel e x2 x3
    have k := k [cel]
    unfold qRow at k
    rw [e] at k
    walk_at "x"
    exact ⟨sl_le (by simp), k⟩
  unfold Mi.m_quoted_at_2 Mi.b_quoted_at_2
  walk_at "x"
  refine ⟨sl_le (by decide), ?_⟩
  walk_at "x"
  refine s_seq (s_whI (fun m e h' => ∃ (j : Nat) (vs : List Nat), e = [some (.str z), some (.int i), some (.ref h.length), some (.int ((i + 1 + j : Nat) : Int))] ∧ h' = h ++ [.lst ((vs.map ch).map .str)] ∧ i + 1 + j ≤ z.length ∧ vs.length ≤ j ∧
    qv ((TL.tl z).drop (i + 1)) = (qv ((TL.tl z).drop (i + 1 + j))).map (fun p => (vs ++ p.1, p.2 + j)) ∧ m = z.length - (i + 1 + j)) ?_ 100000 (z.length - (i + 1)) _ _ (by omega) ⟨0, [], rfl, rfl, by omega, by simp, by
      show _ = Option.map _ (qv ((TL.tl z).drop (i + 1)))
      cases qv ((TL.tl z).drop (i + 1)) <;> rfl, rfl⟩)
  rintro m e h' ⟨j, vs, rfl, rfl, hj, hvj, hq, rfl⟩
  walk_at "x"
  refine v_lens (sl_le (by omega)) ?_
  walk_at "x"
  refine ⟨fun e => ?_, fun e => ?_⟩
  · have e : ((i + 1 + j : Nat) : Int) < z.length := of_decide_eq_true e
    have hj2 : i + 1 + j < (TL.tl z).length := by omega
    obtain ⟨c2, hc2⟩ : ∃ c2, (TL.tl z)[i + 1 + j]? = some c2 := ⟨_, List.getElem?_eq_getElem hj2⟩
    have hd : ∀ {n c : Nat}, (TL.tl z)[n]? = some c → (TL.tl z).drop n = c :: (TL.tl z).drop (n + 1) := fun {n c} e => by
      have hn := (List.getElem?_eq_some_iff.mp e).1
      rw [List.drop_eq_getElem_cons hn]
      rw [List.getElem?_eq_getElem hn] at e
      rw [Option.some.inj e]
    rw [hd hc2, qv_cons] at hq
    have chq : ∀ (c2 d : Nat) (y : Str), y = ch d → decide (ch c2 = y) = (c2 == d) := fun c2 d y e => by rw [e, ch_eq]
    walk_at "x"
    refine at_k hl hc2 ?_
    walk_at "x"
    refine ⟨fun e => ?_, fun e => ?_⟩
    · have e : (!decide (ch c2 = ("\n" : Str))) = true := e
      rw [chq c2 10 _ (by decide +kernel)] at e
      have h10 : c2 ≠ 10 := by simpa using e
      rw [if_neg h10] at hq
      refine s_seq ?_
      walk_at "x"
      refine at_k hl hc2 ?_
      walk_at "x"
      refine ⟨fun e => ?_, fun e => ?_⟩
      · have e : decide (ch c2 = ("\"" : Str)) = true := e
        rw [chq c2 34 _ (by decide +kernel)] at e
        have h34 : c2 = 34 := by simpa using e
        rw [if_pos h34] at hq
        walk_at "x"
        refine ⟨rfl, ?_⟩
        walk_at "x"
        have hsum := sum_le (ys := vs.map ch) (m := 1) fun y m => by
          obtain ⟨c, _, rfl⟩ := List.mem_map.mp m
          exact Nat.le_refl _
        rw [List.length_map] at hsum
        have hse : Str.length "" = 0 := by decide
        have hv : Txt.join "" (vs.map ch) = mkS vs := TL.ext_tl (join_chs vs)
        refine v_join (ys := vs.map ch) (by simp only [getQ, getL]; rw [List.getElem?_append_right (Nat.le_refl _), Nat.sub_self]; rfl) (by rw [hse]; omega) ?_
        walk_at "x"
        have hvl : (mkS vs).length = vs.length := by show (List.toArray vs).size = _; simp
        rw [hv]
        refine quoted_token_k (by omega) ?_
        rw [hvl]
        have k := k [.lst ((vs.map ch).map .str)]
        unfold qRow at k
        rw [hq] at k
        have k : P (.tup (if 100 < (vs ++ []).length then [.str "error", .str "", .int (i : Int)] else [.str "text", .str (mkS (vs ++ [])), .int ((i + (0 + j + 2) : Nat) : Int)])) (h ++ [.lst ((vs.map ch).map .str)]) := k
        rw [List.append_nil] at k
        have en : ((i + (0 + j + 2) : Nat) : Int) = ((i + 1 + j : Nat) : Int) + 1 := by omega
        rw [en] at k
        exact k
      · have e : decide (ch c2 = ("\"" : Str)) = false := e
        rw [chq c2 34 _ (by decide +kernel)] at e
        have h34 : c2 ≠ 34 := by simpa using e
        rw [if_neg h34] at hq
        walk_at "x"
        refine s_seq ?_
        refine s_if' ?_
        walk_at "x"
        refine at_k hl hc2 ?_
        walk_at "x"
        refine ⟨fun e => ?_, fun e => ?_⟩
        · have e : decide (ch c2 = ("\\" : Str)) = true := e
          rw [chq c2 92 _ (by decide +kernel)] at e
          have h92 : c2 = 92 := by simpa using e
          rw [if_pos h92] at hq
          refine s_seq (s_aug' rfl (x_c ⟨_, rfl, ?_⟩))
          dsimp only
          have e1 : (((i + 1 + j : Nat) : Int) + 1) = ((i + 1 + (j + 1) : Nat) : Int) := by omega
          have eset : List.set [some (D.str z), some (D.int (i : Int)), some (D.ref h.length), some (D.int ((i + 1 + j : Nat) : Int))] 3 (some (D.int (((i + 1 + j : Nat) : Int) + 1))) = [some (D.str z), some (D.int (i : Int)), some (D.ref h.length), some (D.int ((i + 1 + (j + 1) : Nat) : Int))] := by rw [← e1]; rfl
          rw [eset]
          refine s_seq (s_if' ?_)
          refine x_orT (x_tst (x_bin (x_var rfl (x_cb (x_cons (x_var rfl (x_nil (v_lens (sl_le (by omega)) (x_some (d := .bl (decide (((i + 1 + (j + 1) : Nat) : Int) = (z.length : Int)))) rfl (x_oB ⟨fun e => ?_, fun e => ?_⟩))))))))))
          · have e : ((i + 1 + (j + 1) : Nat) : Int) = z.length := of_decide_eq_true e
            refine ⟨fun _ => ?_, fun z => nomatch z⟩
            refine fin (.lst ((vs.map ch).map .str)) ?_ (some (.ref h.length)) (some (.int ((i + 1 + (j + 1) : Nat) : Int)))
            rw [hq, List.drop_eq_nil_of_le (by omega)]
            rfl
          · have e : ¬ ((i + 1 + (j + 1) : Nat) : Int) = z.length := of_decide_eq_false e
            have hj3 : i + 1 + (j + 1) < (TL.tl z).length := by omega
            obtain ⟨c3, hc3⟩ : ∃ c3, (TL.tl z)[i + 1 + (j + 1)]? = some c3 := ⟨_, List.getElem?_eq_getElem hj3⟩
            have hd3 := hd hc3
            have hd3 : (TL.tl z).drop (i + 1 + j + 1) = c3 :: (TL.tl z).drop (i + 1 + (j + 1) + 1) := hd3
            rw [hd3] at hq
            simp only [] at hq
            refine x_tst (x_un (x_bin (x_var rfl (x_var rfl (at_k hl hc3 ?_)))))
            refine x_some (d := .bl (!(kvGet [("\"", "\""), ("\\", "\\"), ("n", "\n")] (ch c3)).isSome)) rfl (x_oB ?_)
            rw [kv_esc]
            refine ⟨fun e => ?_, fun e => ?_⟩
            · have en : escN c3 = none := by
                cases q : escN c3 with
                | none => rfl
                | some v => rw [q] at e; cases e
              refine fin (.lst ((vs.map ch).map .str)) ?_ (some (.ref h.length)) (some (.int ((i + 1 + (j + 1) : Nat) : Int)))
              rw [hq, en]
              rfl
            · obtain ⟨v, ev⟩ : ∃ v, escN c3 = some v := by
                cases q : escN c3 with
                | none => rw [q] at e; cases e
                | some v => exact ⟨v, rfl⟩
              rw [ev] at hq
              walk_at "x"
              refine ⟨isl_end, ?_⟩
              refine x_cons (x_un (x_bin (x_var rfl (x_var rfl (at_k hl hc3 (x_some (d := .str (ch v)) (by show (kvGet [("\"", "\""), ("\\", "\\"), ("n", "\n")] (ch c3)).map D.str = _; rw [kv_esc, ev]; rfl) (x_nil ?_)))))))
              refine app_end (by rw [List.length_map, List.length_map]; omega) ?_
              dsimp only
              refine s_aug' rfl (x_c ⟨_, rfl, ?_⟩)
              refine ⟨z.length - (i + 1 + (j + 2)), by omega, j + 2, vs ++ [v], ?_, by simp, by omega, by rw [List.length_append, List.length_singleton]; omega, ?_, rfl⟩
              · show [some (D.str z), some (D.int (i : Int)), some (D.ref h.length), some (D.int (((i + 1 + (j + 1) : Nat) : Int) + 1))] = _
                rw [show (((i + 1 + (j + 1) : Nat) : Int) + 1) = ((i + 1 + (j + 2) : Nat) : Int) by omega]
              · rw [hq]
                show Option.map _ ((some v).bind _) = _
                rw [Option.bind_some, Option.map_map]
                congr 1
                funext p
                show (vs ++ v :: p.1, p.2 + 2 + j) = (vs ++ [v] ++ p.1, p.2 + (j + 2))
                rw [List.append_assoc]
                congr 1
                omega
        · have e : decide (ch c2 = ("\\" : Str)) = false := e
          rw [chq c2 92 _ (by decide +kernel)] at e
          have h92 : c2 ≠ 92 := by simpa using e
          rw [if_neg h92] at hq
          walk_at "x"
          refine ⟨isl_end, ?_⟩
          walk_at "x"
          refine at_k hl hc2 ?_
          walk_at "x"
          refine app_end (by rw [List.length_map, List.length_map]; omega) ?_
          dsimp only
          refine s_aug' rfl (x_c ⟨_, rfl, ?_⟩)
          refine ⟨z.length - (i + 1 + (j + 1)), by omega, j + 1, vs ++ [c2], ?_, by simp, by omega, by rw [List.length_append, List.length_singleton]; omega, ?_, rfl⟩
          · show [some (D.str z), some (D.int (i : Int)), some (D.ref h.length), some (D.int (((i + 1 + j : Nat) : Int) + 1))] = _
            rw [show (((i + 1 + j : Nat) : Int) + 1) = ((i + 1 + (j + 1) : Nat) : Int) by omega]
          · rw [hq, Option.map_map]
            congr 1
            funext p
            show (vs ++ c2 :: p.1, p.2 + 1 + j) = (vs ++ [c2] ++ p.1, p.2 + (j + 1))
            rw [List.append_assoc]
            congr 1
            omega
    · have e : (!decide (ch c2 = ("\n" : Str))) = false := e
      rw [chq c2 10 _ (by decide +kernel)] at e
      have h10 : c2 = 10 := by simpa using e
      rw [if_pos h10] at hq
      exact fin (.lst ((vs.map ch).map .str)) (by rw [hq]; rfl) (some (.ref h.length)) (some (.int ((i + 1 + j : Nat) : Int)))
  · refine ⟨fun z => (nomatch z), fun _ => ?_⟩
    have e : ¬ ((i + 1 + j : Nat) : Int) < z.length := of_decide_eq_false e
    refine fin (.lst ((vs.map ch).map .str)) ?_ (some (.ref h.length)) (some (.int ((i + 1 + j : Nat) : Int)))
    rw [hq, List.drop_eq_nil_of_le (by omega)]
    rfl
end
end Vi

set_option Elab.async false
set_option linter.all false
set_option autoImplicit false
set_option maxRecDepth 100000
set_option maxHeartbeats 2000000
namespace Vi
open PySem PySem.Spec PyProof.Rows L2
open scoped Classical
local macro_rules | `(tactic| walk_at "x1") => `(tactic| with_reducible first
  | refine x_bin ?_ | refine x_tst ?_ | refine x_oB ?_ | refine x_c ?_ | refine s_seqA ?_ | refine s_seqU ?_ | refine s_seqE ?_ | refine s_seqN ?_ | refine s_asg' ?_ | refine s_if' ?_ | refine s_ret' ?_ | refine s_exp' ?_ | refine s_next ?_ | refine s_retN' ?_ | refine s_sub' ?_
  | refine x_cb ?_ | refine x_cons ?_ | refine x_nil ?_ | refine x_call ?_ | refine x_met ?_ | refine x_un ?_ | refine x_notT ?_ | refine x_andT ?_ | refine x_orT ?_ | refine x_and ?_ | refine x_or ?_ | refine x_not ?_ | refine x_if ?_
  | refine x_tup ?_ | refine x_lst ?_ | refine x_cel ?_ | refine x_sl ?_ | refine x_noP ?_ | refine x_part ?_ | refine x_oI ?_ | refine x_mI ?_ | refine x_rng ?_ | refine x_yes ?_ | refine x_chn ?_ | refine x_fun ?_ | refine x_ok ?_)
local macro_rules | `(tactic| walk_at "x2") => `(tactic| first
  | ((with_reducible refine y_var ?_); refine ⟨_, rfl, ?_⟩)
  | ((with_reducible refine y_some ?_); refine ⟨_, rfl, ?_⟩)
  | ((with_reducible refine y_gP ?_); refine ⟨_, rfl, ?_⟩))
local macro_rules | `(tactic| walk_at "x") => `(tactic| repeat (first | walk_at "x1" | walk_at "x2" ))
local macro_rules | `(tactic| walk_at "nx") => `(tactic| (refine next_k (by assumption) (by assumption) (by first | decide | omega) (by first | decide | omega) ?_))

/-! ### one token, all tokens -/
theorem sl_mkS (z : Str) (i j : Nat) : sl z i j = mkS (((TL.tl z).drop i).take (j - i)) := by rw [← tl_slc, mkS_tl]
theorem ch_mkS (c : Nat) : ch c = mkS [c] := rfl
theorem mkS_inj {x y : List Nat} (e : mkS x = mkS y) : x = y := by
  have := congrArg TL.tl e
  simpa [TL.tl, mkS] using this
theorem tl_mkS (x : List Nat) : TL.tl (mkS x) = x := by simp [TL.tl, mkS]
theorem two_signs {z : Str} {i c : Nat} {r : List Nat} (hd : (TL.tl z).drop i = c :: r) : (sl z i (i + 2) = "==" ∨ sl z i (i + 2) = "!=") ↔ (c = 61 ∨ c = 33) ∧ r.head? = some 61 := by
  have e1 : ("==" : Str) = mkS [61, 61] := by decide +kernel
  have e2 : ("!=" : Str) = mkS [33, 61] := by decide +kernel
  rw [sl_mkS, hd, e1, e2, show i + 2 - i = 2 by omega]
  cases r with
  | nil =>
    constructor
    · rintro (h | h) <;> exact absurd (mkS_inj h) (by simp)
    · rintro ⟨_, h⟩; cases h
  | cons d r2 =>
    constructor
    · rintro (h | h)
      · have := mkS_inj h; simp at this; exact ⟨.inl this.1, by rw [this.2]; rfl⟩
      · have := mkS_inj h; simp at this; exact ⟨.inr this.1, by rw [this.2]; rfl⟩
    · rintro ⟨h1, h2⟩
      have h2 : d = 61 := by simpa using h2
      subst h2
      rcases h1 with rfl | rfl
      · exact .inl rfl
      · exact .inr rfl
theorem tokL_kind {l : List Nat} (h : (tokL l).2.2 ≠ 0) : (tokL l).1 ≠ ("error" : Str) := by
  have n1 : ("word" : Str) ≠ "error" := by decide +kernel
  have n2 : ("text" : Str) ≠ "error" := by decide +kernel
  have n3 : ("sign" : Str) ≠ "error" := by decide +kernel
  cases l with
  | nil => exact absurd rfl h
  | cons c r =>
    rw [tokL] at h ⊢
    by_cases h1 : sch c = true
    · rw [if_pos h1] at h ⊢
      by_cases h2 : 20 < runL (c :: r)
      · rw [if_pos h2] at h; exact absurd rfl h
      · rw [if_neg h2]; exact n1
    · rw [if_neg h1] at h ⊢
      by_cases h3 : c = 34
      · rw [if_pos h3] at h ⊢
        cases q2 : qv r with
        | none => rw [q2] at h; exact absurd rfl h
        | some p =>
          rw [q2] at h
          simp only [] at h ⊢
          by_cases h4 : 100 < p.1.length
          · rw [if_pos h4] at h; exact absurd rfl h
          · rw [if_neg h4]; exact n2
      · rw [if_neg h3] at h ⊢
        by_cases h5 : (c = 61 ∨ c = 33) ∧ r.head? = some 61
        · rw [if_pos h5]; exact n3
        · rw [if_neg h5] at h ⊢
          by_cases h6 : c ∈ SGN.cps.toList
          · rw [if_pos h6]; exact n3
          · rw [if_neg h6] at h; exact absurd rfl h
section
variable {h : Hap} {P : D → Hap → Prop}
theorem token_at_2_k {z : Str} {i c : Nat} (hl : z.length ≤ 50000) (hc : (TL.tl z)[i]? = some c) (k : ∀ t, P (.tup (tkRow (tokL ((TL.tl z).drop i)) i)) (h ++ t)) : Sat (Mi.m_token_at_2 [.str z, .int i] h) P := by
  have lz := TL.len_tl z
  have hi := (List.getElem?_eq_some_iff.mp hc).1
  have k0 := k []
  rw [List.append_nil] at k0
  have hd : (TL.tl z).drop i = c :: (TL.tl z).drop (i + 1) := by
    rw [List.drop_eq_getElem_cons hi]
    rw [List.getElem?_eq_getElem hi] at hc
    rw [Option.some.inj hc]
  have eF : tokL ((TL.tl z).drop i) = tokL (c :: (TL.tl z).drop (i + 1)) := by rw [hd]
  have two := two_signs hd
  rw [tokL, ← hd] at eF
  unfold Mi.m_token_at_2 Mi.b_token_at_2
  walk_at "x"
  refine s_seq ?_
  walk_at "x"
  refine at_k hl hc ?_
  walk_at "x"
  refine ⟨fun e => ?_, fun e => ?_⟩
  · have e : sch c = true := e
    walk_at "x"
    refine word_at_k hl hc ?_
    have hp := run_pos hc (sch_wch e)
    rw [if_pos e] at eF
    unfold tkRow at k0
    by_cases h20 : 20 < runL ((TL.tl z).drop i)
    · rw [if_pos h20] at eF ⊢
      rw [eF, if_pos rfl] at k0
      exact k0
    · rw [if_neg h20] at eF ⊢
      have hne : ¬ runL ((TL.tl z).drop i) = 0 := by omega
      rw [eF, if_neg hne] at k0
      rw [sl_mkS, show i + runL ((TL.tl z).drop i) - i = runL ((TL.tl z).drop i) by omega]
      exact k0
  have e : sch c = false := e
  rw [if_neg (by rw [e]; exact fun z => nomatch z)] at eF
  walk_at "x"
  refine s_seq ?_
  walk_at "x"
  refine at_k hl hc ?_
  walk_at "x"
  have c34 : decide (ch c = ("\"" : Str)) = (c == 34) := by
    have e2 : ("\"" : Str) = ch 34 := by decide +kernel
    rw [e2, ch_eq]
  refine ⟨fun e => ?_, fun e => ?_⟩
  · have e : decide (ch c = ("\"" : Str)) = true := e
    rw [c34, beq_iff_eq] at e
    rw [if_pos e] at eF
    walk_at "x"
    refine quoted2_k hl (by omega) fun t => ?_
    have k := k t
    have : tkRow (tokL ((TL.tl z).drop i)) i = qRow ((TL.tl z).drop (i + 1)) i := by
      unfold tkRow qRow
      rw [eF]
      cases qv ((TL.tl z).drop (i + 1)) with
      | none => rfl
      | some p =>
        by_cases h100 : 100 < p.1.length
        · simp only [if_pos h100]; rfl
        · simp only [if_neg h100]
          rw [if_neg (by omega)]
    rw [this] at k
    exact k
  have e : decide (ch c = ("\"" : Str)) = false := e
  rw [c34] at e
  rw [if_neg (by simpa using e)] at eF
  walk_at "x"
  refine s_seq ?_
  walk_at "x"
  refine v_slS (sl_le (by omega)) ?_
  walk_at "x"
  have e2 : (((i : Int) + 2) = ((i + 2 : Nat) : Int)) := by omega
  rw [e2]
  have mem2 : decide (sl z i (i + 2) ∈ (["==", "!="] : List Str)) = decide ((c = 61 ∨ c = 33) ∧ ((TL.tl z).drop (i + 1)).head? = some 61) := by
    simp only [List.mem_cons, List.not_mem_nil, or_false]
    exact decide_eq_decide.mpr two
  have inv2 : inV (V.str (sl z i (i + 2))) [V.str "==", V.str "!="] = decide ((c = 61 ∨ c = 33) ∧ ((TL.tl z).drop (i + 1)).head? = some 61) := (inV_strs (ys := ["==", "!="])).trans mem2
  rw [inv2]
  refine ⟨fun e => ?_, fun e => ?_⟩
  · have e := of_decide_eq_true e
    rw [if_pos e] at eF
    have esl : sl z i (i + 2) = mkS [c, 61] := by
      rw [sl_mkS, hd, show i + 2 - i = 2 by omega]
      cases hr : (TL.tl z).drop (i + 1) with
      | nil => rw [hr] at e; exact absurd e.2 (by simp)
      | cons d r2 =>
        rw [hr] at e
        have : d = 61 := by simpa using e.2
        rw [this]
        rfl
    walk_at "x"
    refine v_slS (sl_le (by omega)) ?_
    walk_at "x"
    refine ⟨sl_le (by simp), ?_⟩
    unfold tkRow at k0
    rw [eF] at k0
    rw [if_neg (show ¬ (2 : Nat) = 0 by decide)] at k0
    show P (.tup [.str "sign", .str (sl z i (i + 2)), _]) h
    rw [esl]
    exact k0
  have e := of_decide_eq_false e
  rw [if_neg e] at eF
  walk_at "x"
  refine s_seq ?_
  walk_at "x"
  refine at_k hl hc ?_
  walk_at "x"
  refine ⟨fun e => ?_, fun e => ?_⟩
  · have e : decide (c ∈ SGN.cps.toList) = true := e
    rw [if_pos (of_decide_eq_true e)] at eF
    walk_at "x"
    refine at_k hl hc ?_
    walk_at "x"
    refine ⟨sl_le (by simp), ?_⟩
    unfold tkRow at k0
    rw [eF] at k0
    rw [if_neg (show ¬ (1 : Nat) = 0 by decide)] at k0
    exact k0
  · have e : decide (c ∈ SGN.cps.toList) = false := e
    rw [if_neg (of_decide_eq_false e)] at eF
    walk_at "x"
    refine ⟨sl_le (by simp), ?_⟩
    unfold tkRow at k0
    rw [eF] at k0
    rw [if_pos rfl] at k0
    exact k0
end
def lexL : Nat → List Nat → Int → Int → List D
  | 0, _, _, _ => []
  | _ + 1, [], _, _ => []
  | f + 1, c :: r, line, col => if c = 10 then lexL f r (line + 1) 1 else if c = 32 then lexL f r line (col + 1)
      else if (tokL (c :: r)).2.2 = 0 then [.tup [.str "error", .str "", .int line, .int col]]
      else .tup [.str (tokL (c :: r)).1, .str (mkS (tokL (c :: r)).2.1), .int line, .int col] :: lexL f ((c :: r).drop (tokL (c :: r)).2.2) line (col + (tokL (c :: r)).2.2)
theorem lexL_fuel : ∀ (f f' : Nat) (l : List Nat) (line col : Int), l.length < f → l.length < f' → lexL f l line col = lexL f' l line col
  | 0, f', l, line, col, h, h' => absurd h (Nat.not_lt_zero _)
  | f + 1, 0, l, line, col, h, h' => absurd h' (Nat.not_lt_zero _)
  | f + 1, f' + 1, [], line, col, h, h' => rfl
  | f + 1, f' + 1, c :: r, line, col, h, h' => by
    rw [List.length_cons] at h h'
    rw [lexL, lexL]
    by_cases h10 : c = 10
    · rw [if_pos h10, if_pos h10]
      exact lexL_fuel f f' _ _ _ (by omega) (by omega)
    · rw [if_neg h10, if_neg h10]
      by_cases h32 : c = 32
      · rw [if_pos h32, if_pos h32]
        exact lexL_fuel f f' _ _ _ (by omega) (by omega)
      · rw [if_neg h32, if_neg h32]
        by_cases h0 : (tokL (c :: r)).2.2 = 0
        · rw [if_pos h0, if_pos h0]
        · have hle : ((c :: r).drop (tokL (c :: r)).2.2).length ≤ r.length := by rw [List.length_drop, List.length_cons]; omega
          rw [if_neg h0, if_neg h0, lexL_fuel f f' _ line _ (by omega) (by omega)]
def lexF (l : List Nat) (line col : Int) : List D := lexL (l.length + 1) l line col
theorem lexF_nil {line col : Int} : lexF [] line col = [] := rfl
theorem lexF_step {c : Nat} {r : List Nat} {line col : Int} : lexF (c :: r) line col = if c = 10 then lexF r (line + 1) 1 else if c = 32 then lexF r line (col + 1)
      else if (tokL (c :: r)).2.2 = 0 then [.tup [.str "error", .str "", .int line, .int col]]
      else .tup [.str (tokL (c :: r)).1, .str (mkS (tokL (c :: r)).2.1), .int line, .int col] :: lexF ((c :: r).drop (tokL (c :: r)).2.2) line (col + (tokL (c :: r)).2.2) := by
  unfold lexF
  rw [List.length_cons, lexL]
  by_cases h0 : (tokL (c :: r)).2.2 = 0
  · rw [if_pos h0, if_pos h0]
  · have hle : ((c :: r).drop (tokL (c :: r)).2.2).length ≤ r.length := by rw [List.length_drop, List.length_cons]; omega
    rw [if_neg h0, if_neg h0, lexL_fuel (r.length + 1) (((c :: r).drop (tokL (c :: r)).2.2).length + 1) ((c :: r).drop (tokL (c :: r)).2.2) line _ (by omega) (by omega)]
section
variable {h : Hap} {P : D → Hap → Prop}
theorem tokens2_k {z : Str} (hl : z.length ≤ 50000) (k : ∀ t, P (.tup (lexF (TL.tl z) 1 1)) (h ++ t)) : Sat (Mi.m_tokens_2 [.str z] h) P := by
  have lz := TL.len_tl z
  unfold Mi.m_tokens_2 Mi.b_tokens_2
  walk_at "x"
  refine ⟨sl_le (by decide), ?_⟩
  walk_at "x"
  refine s_cut (fun e h' => ∃ (acc : List D) (x2 x3 x4 x5 x6 x7 : Option D), e = [some (.str z), some (.ref h.length), x2, x3, x4, x5, x6, x7] ∧ Pre h h' ∧ h'[h.length]? = some (.lst acc) ∧ acc = lexF (TL.tl z) 1 1) ?_ ?_
  · refine s_whI (fun m e h' => ∃ (a : Nat) (line ls : Int) (acc : List D) (x5 x6 x7 : Option D), e = [some (.str z), some (.ref h.length), some (.int (a : Int)), some (.int line), some (.int ls), x5, x6, x7] ∧ Pre h h' ∧ h'[h.length]? = some (.lst acc) ∧ acc.length ≤ a ∧ acc.length ≤ 50000 ∧ acc ++ lexF ((TL.tl z).drop a) line (a - ls + 1) = lexF (TL.tl z) 1 1 ∧ m = z.length - a) ?_ 100000 z.length _ _ (by omega) ⟨0, 1, 0, [], _, _, _, rfl, ⟨_, rfl⟩, by rw [List.getElem?_append_right (Nat.le_refl _), Nat.sub_self]; rfl, Nat.le_refl _, Nat.zero_le _, rfl, rfl⟩
    rintro m e h' ⟨a, line, ls, acc, x5, x6, x7, rfl, hp, hcl, hac, hac2, hx, rfl⟩
    walk_at "x"
    refine v_lens (sl_le (by omega)) ?_
    walk_at "x"
    refine ⟨fun e => ?_, fun e => ?_⟩
    · have e : (a : Int) < z.length := of_decide_eq_true e
      obtain ⟨c, hc⟩ : ∃ c, (TL.tl z)[a]? = some c := ⟨_, List.getElem?_eq_getElem (by omega)⟩
      have chq : ∀ (d : Nat) (y : Str), y = ch d → decide (ch c = y) = (c == d) := fun d y e => by rw [e, ch_eq]
      have hdr : (TL.tl z).drop a = c :: (TL.tl z).drop (a + 1) := by
        have hn := (List.getElem?_eq_some_iff.mp hc).1
        rw [List.drop_eq_getElem_cons hn]
        rw [List.getElem?_eq_getElem hn] at hc
        rw [Option.some.inj hc]
      rw [hdr, lexF_step, ← hdr, List.drop_drop] at hx
      walk_at "x"
      refine at_k hl hc ?_
      walk_at "x"
      refine ⟨fun e => ?_, fun e => ?_⟩
      · have e : decide (ch c = ("\n" : Str)) = true := e
        rw [chq 10 _ (by decide +kernel)] at e
        have h10 : c = 10 := by simpa using e
        rw [if_pos h10] at hx
        refine s_seq (s_aug' rfl (x_c ⟨_, rfl, ?_⟩))
        dsimp only
        refine s_seq (s_aug' rfl (x_c ⟨_, rfl, ?_⟩))
        walk_at "x"
        refine ⟨z.length - (a + 1), by omega, a + 1, line + 1, (a + 1 : Nat), acc, _, _, _, rfl, hp, hcl, by omega, hac2, ?_, rfl⟩
        have e9 : (((a + 1 : Nat) : Int) - ((a + 1 : Nat) : Int) + 1) = 1 := by omega
        rw [e9]
        exact hx
      · have e : decide (ch c = ("\n" : Str)) = false := e
        rw [chq 10 _ (by decide +kernel)] at e
        have h10 : c ≠ 10 := by simpa using e
        rw [if_neg h10] at hx
        walk_at "x"
        refine at_k hl hc ?_
        walk_at "x"
        refine ⟨fun e => ?_, fun e => ?_⟩
        · have e : decide (ch c = (" " : Str)) = true := e
          rw [chq 32 _ (by decide +kernel)] at e
          have h32 : c = 32 := by simpa using e
          rw [if_pos h32] at hx
          refine s_aug' rfl (x_c ⟨_, rfl, ?_⟩)
          refine ⟨z.length - (a + 1), by omega, a + 1, line, ls, acc, _, _, _, rfl, hp, hcl, by omega, hac2, ?_, rfl⟩
          have e9 : (((a + 1 : Nat) : Int) - ls + 1) = ((a : Int) - ls + 1 + 1) := by omega
          rw [e9]
          exact hx
        · have e : decide (ch c = (" " : Str)) = false := e
          rw [chq 32 _ (by decide +kernel)] at e
          have h32 : c ≠ 32 := by simpa using e
          rw [if_neg h32] at hx
          walk_at "x"
          have hkd := @tokL_kind ((TL.tl z).drop a)
          refine s_asgT (x_call (x_cons (x_var rfl (x_cons (x_var rfl (x_nil (token_at_2_k hl hc fun t => ?_)))))))
          have hpt : Pre h' (h' ++ t) := ⟨t, rfl⟩
          have hcl2 := hpt.get hcl
          have hp2 := hp.trans hpt
          generalize h' ++ t = h2 at hcl2 hp2
          generalize tokL ((TL.tl z).drop a) = tk at hx hkd ⊢
          by_cases h0 : tk.2.2 = 0
          · rw [if_pos h0] at hx
            have er : tkRow tk a = [.str "error", .str "", .int (a : Int)] := by unfold tkRow; rw [if_pos h0]
            rw [er]
            refine ⟨_, rfl, ?_⟩
            walk_at "x"
            refine ⟨isl_k hcl2, ?_⟩
            walk_at "x"
            refine ⟨sl_le (by simp), ?_⟩
            walk_at "x"
            refine app_k hp2 rfl hcl2 (by omega) fun h3 hp3 hcl3 => ?_
            refine s_seq ?_
            walk_at "x"
            refine ⟨fun _ => ?_, fun z => absurd z (by decide +kernel)⟩
            walk_at "x"
            obtain ⟨t3, rfl⟩ := hp3
            refine x_some (d := .tup (acc ++ [.tup [.str "error", .str "", .int line, .int ((a : Int) - ls + 1)]])) (by show (getQ (.ref h.length) _).map D.tup = _; simp only [getQ, getL]; rw [hcl3]; rfl) ?_
            rw [hx]
            exact k t3
          · rw [if_neg h0] at hx
            have er : tkRow tk a = [.str tk.1, .str (mkS tk.2.1), .int ((a + tk.2.2 : Nat) : Int)] := by unfold tkRow; rw [if_neg h0]
            have hk := hkd h0
            rw [er]
            generalize tk.2.2 = n at *
            generalize tk.1 = kd at *
            generalize mkS tk.2.1 = vl at *
            refine ⟨_, rfl, ?_⟩
            walk_at "x"
            refine ⟨isl_k hcl2, ?_⟩
            walk_at "x"
            refine ⟨sl_le (by simp), ?_⟩
            walk_at "x"
            refine app_k hp2 rfl hcl2 (by omega) fun h3 hp3 hcl3 => ?_
            refine s_seq ?_
            walk_at "x"
            refine ⟨fun z => absurd (of_decide_eq_true z) hk, fun _ => ?_⟩
            walk_at "x"
            refine ⟨z.length - (a + n), by omega, a + n, line, ls, _, _, _, _, rfl, hp3, hcl3, by rw [List.length_append, List.length_singleton]; omega, by rw [List.length_append, List.length_singleton]; omega, ?_, rfl⟩
            rw [List.append_assoc, ← hx]
            have e9 : (((a + n : Nat) : Int) - ls + 1) = ((a : Int) - ls + 1 + (n : Int)) := by omega
            rw [e9]
            rfl
    · have e : ¬ (a : Int) < z.length := of_decide_eq_false e
      rw [List.drop_eq_nil_of_le (by omega), lexF_nil, List.append_nil] at hx
      exact ⟨acc, _, _, _, _, _, _, rfl, hp, hcl, hx⟩
  · rintro e h' ⟨acc, x2, x3, x4, x5, x6, x7, rfl, ⟨t, rfl⟩, hcl, hx⟩
    walk_at "x"
    refine x_some (d := .tup acc) (by show (getQ (.ref h.length) _).map D.tup = _; simp only [getQ, getL]; rw [hcl]; rfl) ?_
    rw [hx]
    exact k t
end
end Vi

set_option Elab.async false
set_option linter.all false
set_option autoImplicit false
set_option maxRecDepth 100000
set_option maxHeartbeats 2000000
namespace Vi
open PySem PySem.Spec PyProof.Rows L2
open scoped Classical
local macro_rules | `(tactic| walk_at "x1") => `(tactic| with_reducible first
  | refine x_bin ?_ | refine x_tst ?_ | refine x_oB ?_ | refine x_c ?_ | refine s_seqA ?_ | refine s_seqU ?_ | refine s_seqE ?_ | refine s_seqN ?_ | refine s_asg' ?_ | refine s_if' ?_ | refine s_ret' ?_ | refine s_exp' ?_ | refine s_next ?_ | refine s_retN' ?_ | refine s_sub' ?_
  | refine x_cb ?_ | refine x_cons ?_ | refine x_nil ?_ | refine x_call ?_ | refine x_met ?_ | refine x_un ?_ | refine x_notT ?_ | refine x_andT ?_ | refine x_orT ?_ | refine x_and ?_ | refine x_or ?_ | refine x_not ?_ | refine x_if ?_
  | refine x_tup ?_ | refine x_lst ?_ | refine x_cel ?_ | refine x_sl ?_ | refine x_noP ?_ | refine x_part ?_ | refine x_oI ?_ | refine x_mI ?_ | refine x_rng ?_ | refine x_yes ?_ | refine x_chn ?_ | refine x_fun ?_ | refine x_ok ?_)
local macro_rules | `(tactic| walk_at "x2") => `(tactic| first
  | ((with_reducible refine y_var ?_); refine ⟨_, rfl, ?_⟩)
  | ((with_reducible refine y_some ?_); refine ⟨_, rfl, ?_⟩)
  | ((with_reducible refine y_gP ?_); refine ⟨_, rfl, ?_⟩))
local macro_rules | `(tactic| walk_at "x") => `(tactic| repeat (first | walk_at "x1" | walk_at "x2" ))
local macro_rules | `(tactic| walk_at "nx") => `(tactic| (refine next_k (by assumption) (by assumption) (by first | decide | omega) (by first | decide | omega) ?_))

/-! ### tokens that stand, tokens that do not -/
def fits (b l : List Nat) : Prop := ∀ c d, b.getLast? = some c → l.head? = some d → ¬ (wch c = true ∧ wch d = true) ∧ ¬ ((c = 61 ∨ c = 33) ∧ d = 61)
theorem fits_nil {l : List Nat} : fits [] l := fun c d h => by cases h
theorem fits_nl {b : List Nat} : fits b [] := fun c d _ h => by cases h
theorem blank_wch {d : Nat} (h : d = 32 ∨ d = 10) : wch d = false ∧ d ≠ 61 := by
  rcases h with rfl | rfl
  · exact ⟨by decide +kernel, by decide⟩
  · exact ⟨by decide +kernel, by decide⟩
theorem fits_bl {b r : List Nat} {d : Nat} (h : d = 32 ∨ d = 10) : fits b (d :: r) := fun c d2 _ h2 => by
  have h2 : d = d2 := by simpa using h2
  subst h2
  have := blank_wch h
  exact ⟨fun z => (by rw [this.1] at z; exact absurd z.2 (by decide)), fun z => this.2 z.2⟩
def goodT (w : List Nat) (kd : Str) (vl : List Nat) : Prop := (∃ c r, w = c :: r ∧ c ≠ 10 ∧ c ≠ 32) ∧ ∀ rest, fits w rest → tokL (w ++ rest) = (kd, vl, w.length)
theorem good_step {w : List Nat} {kd : Str} {vl : List Nat} (g : goodT w kd vl) {rest : List Nat} (hf : fits w rest) (line col : Int) : lexF (w ++ rest) line col = .tup [.str kd, .str (mkS vl), .int line, .int col] :: lexF rest line (col + w.length) := by
  obtain ⟨⟨c, r, rfl, h10, h32⟩, g⟩ := g
  have e := g rest hf
  show lexF (c :: (r ++ rest)) line col = _
  have e : tokL (c :: (r ++ rest)) = (kd, vl, (c :: r).length) := e
  rw [lexF_step, if_neg h10, if_neg h32, e, if_neg (by simp)]
  show _ :: lexF ((c :: r ++ rest).drop (c :: r).length) line _ = _
  rw [List.drop_left]
theorem run_app {w rest : List Nat} (h : ∀ c ∈ w, wch c = true) : runL (w ++ rest) = w.length + runL rest := by
  induction w with
  | nil => simp
  | cons c w ih =>
    have hc := h c List.mem_cons_self
    have ih := ih fun d m => h d (List.mem_cons_of_mem _ m)
    unfold runL at *
    rw [List.cons_append, List.takeWhile_cons, if_pos hc, List.length_cons, List.length_cons, ih]
    omega
theorem run_zero {rest : List Nat} (h : ∀ d, rest.head? = some d → wch d = false) : runL rest = 0 := by
  cases rest with
  | nil => rfl
  | cons d r =>
    unfold runL
    rw [List.takeWhile_cons, if_neg (by rw [h d rfl]; exact fun z => nomatch z)]
    rfl
theorem sch_not {c : Nat} (h : sch c = true) : c ≠ 10 ∧ c ≠ 32 ∧ c ≠ 34 := by
  have h10 : sch 10 = false := by decide +kernel
  have h32 : sch 32 = false := by decide +kernel
  have h34 : sch 34 = false := by decide +kernel
  refine ⟨?_, ?_, ?_⟩
  all_goals rintro rfl; simp_all
theorem good_word {c : Nat} {r : List Nat} (hc : sch c = true) (hr : ∀ d ∈ r, wch d = true) (hl : r.length < 20) : goodT (c :: r) "word" (c :: r) := by
  have hall : ∀ d ∈ c :: r, wch d = true := fun d m => by
    rcases List.mem_cons.mp m with rfl | m
    · exact sch_wch hc
    · exact hr d m
  refine ⟨⟨c, r, rfl, (sch_not hc).1, (sch_not hc).2.1⟩, fun rest hf => ?_⟩
  have hz : runL rest = 0 := run_zero fun d hd => by
    obtain ⟨c2, e2⟩ : ∃ c2, (c :: r).getLast? = some c2 := ⟨_, List.getLast?_eq_some_getLast (by simp)⟩
    have := (hf c2 d e2 hd).1
    have hc2 := hall c2 (List.mem_of_getLast? e2)
    cases q : wch d with
    | false => rfl
    | true => exact absurd ⟨hc2, q⟩ this
  have e := run_app (rest := rest) hall
  rw [hz, Nat.add_zero] at e
  have e : runL (c :: (r ++ rest)) = (c :: r).length := e
  show tokL (c :: (r ++ rest)) = _
  rw [tokL, if_pos hc, e, if_neg (by rw [List.length_cons]; omega)]
  have : (c :: (r ++ rest)).take (c :: r).length = c :: r := List.take_left (l₁ := c :: r)
  rw [this]
theorem good_sign : ∀ w ∈ S12, goodT (TL.tl w) "sign" (TL.tl w) := by
  have one : ∀ c : Nat, c ∈ SGN.cps.toList → (∀ rest, fits [c] rest → ¬ ((c = 61 ∨ c = 33) ∧ rest.head? = some 61)) → goodT [c] "sign" [c] := fun c m hn => by
    have h1 := sgn_not m
    have hb : c ≠ 10 ∧ c ≠ 32 := by
      rw [sgn_list] at m
      constructor
      all_goals rintro rfl; simp at m
    refine ⟨⟨c, [], rfl, hb.1, hb.2⟩, fun rest hf => ?_⟩
    show tokL (c :: rest) = _
    rw [tokL, if_neg (by rw [h1.1]; exact fun z => nomatch z), if_neg h1.2.1, if_neg (hn rest hf), if_pos m]
    rfl
  have two : ∀ c : Nat, (c = 61 ∨ c = 33) → goodT [c, 61] "sign" [c, 61] := fun c hc => by
    have h1 : sch c = false := by rcases hc with rfl | rfl <;> decide +kernel
    refine ⟨⟨c, [61], rfl, by omega, by omega⟩, fun rest hf => ?_⟩
    show tokL (c :: 61 :: rest) = _
    rw [tokL, if_neg (by rw [h1]; exact fun z => nomatch z), if_neg (by omega), if_pos ⟨hc, rfl⟩]
    rfl
  have far : ∀ c : Nat, c ∈ SGN.cps.toList → c ≠ 61 → goodT [c] "sign" [c] := fun c m hn => one c m fun rest _ z => by
    rcases z.1 with z | z
    · exact hn z
    · subst z
      rw [sgn_list] at m
      simp at m
  intro w m
  rcases (mem12 w).mp m with (rfl | rfl) | ⟨d, m2, rfl⟩
  · exact two 61 (.inl rfl)
  · exact two 33 (.inr rfl)
  · by_cases hd : d = 61
    · subst hd
      exact one 61 m2 fun rest hf z => (hf 61 61 rfl z.2).2 ⟨.inl rfl, rfl⟩
    · exact far d m2 hd
def escL : List Nat → List Nat
  | [] => []
  | c :: r => (if c = 10 then [92, 110] else if c = 34 ∨ c = 92 then [92, c] else [c]) ++ escL r
theorem esc_snoc : ∀ (l : List Nat) (c : Nat), escL (l ++ [c]) = escL l ++ (if c = 10 then [92, 110] else if c = 34 ∨ c = 92 then [92, c] else [c])
  | [], c => by simp [escL]
  | d :: r, c => by rw [List.cons_append, escL, escL, esc_snoc r c, List.append_assoc]
theorem esc_len : ∀ l : List Nat, (escL l).length ≤ 2 * l.length
  | [] => Nat.zero_le _
  | c :: r => by
    have := esc_len r
    rw [escL, List.length_append, List.length_cons]
    by_cases h1 : c = 10
    · rw [if_pos h1]; simp; omega
    · rw [if_neg h1]
      by_cases h2 : c = 34 ∨ c = 92
      · rw [if_pos h2]; simp; omega
      · rw [if_neg h2]; simp; omega
theorem qv_esc : ∀ (v rest : List Nat), qv (escL v ++ 34 :: rest) = some (v, (escL v).length)
  | [], rest => by
    show qv (34 :: rest) = _
    rw [qv_cons, if_neg (by decide), if_pos rfl]
    rfl
  | c :: r, rest => by
    have ih := qv_esc r rest
    rw [escL]
    by_cases h1 : c = 10
    · rw [if_pos h1]
      show qv (92 :: 110 :: (escL r ++ 34 :: rest)) = _
      rw [qv_cons, if_neg (by decide), if_neg (by decide), if_pos rfl]
      show (escN 110).bind _ = _
      rw [ih]
      show some (10 :: r, _) = _
      rw [h1]
      simp
    · rw [if_neg h1]
      by_cases h2 : c = 34 ∨ c = 92
      · rw [if_pos h2]
        show qv (92 :: c :: (escL r ++ 34 :: rest)) = _
        rw [qv_cons, if_neg (by decide), if_neg (by decide), if_pos rfl]
        have e : escN c = some c := by rcases h2 with rfl | rfl <;> rfl
        show (escN c).bind _ = _
        rw [e, ih]
        show some (c :: r, _) = _
        simp
      · rw [if_neg h2]
        show qv (c :: (escL r ++ 34 :: rest)) = _
        rw [qv_cons, if_neg h1, if_neg fun z => h2 (.inl z), if_neg fun z => h2 (.inr z), ih]
        show some (c :: r, _) = _
        simp
theorem good_text {v : List Nat} (hl : v.length ≤ 100) : goodT (34 :: (escL v ++ [34])) "text" v := by
  refine ⟨⟨34, _, rfl, by decide, by decide⟩, fun rest _ => ?_⟩
  have e : 34 :: (escL v ++ [34]) ++ rest = 34 :: (escL v ++ 34 :: rest) := by simp
  have h34 : sch 34 = false := by decide +kernel
  rw [e, tokL, if_neg (by rw [h34]; exact fun z => nomatch z), if_pos rfl, qv_esc]
  simp only []
  rw [if_neg (by omega)]
  simp
/-! ### the odd ones -/
def badR (rest : List Nat) : Prop := qv rest = none ∧ ∀ d, rest.head? = some d → d = 32 ∨ d = 10
def badT (w : List Nat) : Prop := (∃ c r, w = c :: r ∧ c ≠ 10 ∧ c ≠ 32) ∧ ∀ rest, badR rest → (tokL (w ++ rest)).2.2 = 0
theorem bad_step {w : List Nat} (g : badT w) {rest : List Nat} (hf : badR rest) (line col : Int) : lexF (w ++ rest) line col = [.tup [.str "error", .str "", .int line, .int col]] := by
  obtain ⟨⟨c, r, rfl, h10, h32⟩, g⟩ := g
  have e := g rest hf
  show lexF (c :: (r ++ rest)) line col = _
  have e : (tokL (c :: (r ++ rest))).2.2 = 0 := e
  rw [lexF_step, if_neg h10, if_neg h32, if_pos e]
theorem bad_word {c : Nat} {r : List Nat} (hc : sch c = true) (hr : ∀ d ∈ r, wch d = true) (hl : 20 ≤ r.length) : badT (c :: r) := by
  refine ⟨⟨c, r, rfl, (sch_not hc).1, (sch_not hc).2.1⟩, fun rest _ => ?_⟩
  have e := run_app (w := c :: r) (rest := rest) fun d m => by
    rcases List.mem_cons.mp m with rfl | m
    · exact sch_wch hc
    · exact hr d m
  have e : runL (c :: (r ++ rest)) = (c :: r).length + runL rest := e
  show (tokL (c :: (r ++ rest))).2.2 = 0
  rw [tokL, if_pos hc, e, if_pos (by rw [List.length_cons]; omega)]
theorem bad_quote {l : List Nat} (h : ∀ rest, badR rest → ∀ p, qv (l ++ rest) = some p → 100 < p.1.length) : badT (34 :: l) := by
  refine ⟨⟨34, l, rfl, by decide, by decide⟩, fun rest hb => ?_⟩
  have h34 : sch 34 = false := by decide +kernel
  show (tokL (34 :: (l ++ rest))).2.2 = 0
  rw [tokL, if_neg (by rw [h34]; exact fun z => nomatch z), if_pos rfl]
  cases q : qv (l ++ rest) with
  | none => rfl
  | some p =>
    simp only []
    rw [if_pos (h rest hb p q)]
theorem qv_rep : ∀ (n : Nat) (rest : List Nat), qv (List.replicate n 121 ++ 34 :: rest) = some (List.replicate n 121, n)
  | 0, rest => by
    show qv (34 :: rest) = _
    rw [qv_cons, if_neg (by decide), if_pos rfl]
    rfl
  | n + 1, rest => by
    show qv (121 :: (List.replicate n 121 ++ 34 :: rest)) = _
    rw [qv_cons, if_neg (by decide), if_neg (by decide), if_neg (by decide), qv_rep n rest]
    rfl
theorem bad_long {a : List Nat} {n : Nat} (ha : a ∈ [[121], [92, 110], [92, 92]]) (hn : 100 ≤ n) : badT (34 :: (a ++ List.replicate n 121 ++ [34])) := by
  refine bad_quote fun rest _ p e => ?_
  have e2 : a ++ List.replicate n 121 ++ [34] ++ rest = a ++ (List.replicate n 121 ++ 34 :: rest) := by simp
  rw [e2] at e
  have ih := qv_rep n rest
  simp only [List.mem_cons, List.not_mem_nil, or_false] at ha
  rcases ha with rfl | rfl | rfl
  · have e : qv (121 :: (List.replicate n 121 ++ 34 :: rest)) = some p := e
    rw [qv_cons, if_neg (by decide), if_neg (by decide), if_neg (by decide), ih] at e
    rw [← Option.some.inj e]
    simp
    omega
  · have e : qv (92 :: 110 :: (List.replicate n 121 ++ 34 :: rest)) = some p := e
    rw [qv_cons, if_neg (by decide), if_neg (by decide), if_pos rfl] at e
    have e : (escN 110).bind (fun v => (qv (List.replicate n 121 ++ 34 :: rest)).map fun p => (v :: p.1, p.2 + 2)) = some p := e
    rw [ih] at e
    rw [← Option.some.inj e]
    simp
    omega
  · have e : qv (92 :: 92 :: (List.replicate n 121 ++ 34 :: rest)) = some p := e
    rw [qv_cons, if_neg (by decide), if_neg (by decide), if_pos rfl] at e
    have e : (escN 92).bind (fun v => (qv (List.replicate n 121 ++ 34 :: rest)).map fun p => (v :: p.1, p.2 + 2)) = some p := e
    rw [ih] at e
    rw [← Option.some.inj e]
    simp
    omega
theorem qv_a (l : List Nat) {c : Nat} (h1 : c ≠ 10) (h2 : c ≠ 34) (h3 : c ≠ 92) (h : qv l = none) : qv (c :: l) = none := by
  rw [qv_cons, if_neg h1, if_neg h2, if_neg h3, h]
  rfl
theorem bad_open : badT [34, 97, 98] := bad_quote fun rest hb p e => by
  have : qv ([97, 98] ++ rest) = none := qv_a _ (by decide) (by decide) (by decide) (qv_a _ (by decide) (by decide) (by decide) hb.1)
  rw [this] at e
  cases e
theorem qv_e0 {d : Nat} {r : List Nat} (h : escN d = none) : qv (92 :: d :: r) = none := by
  rw [qv_cons, if_neg (by decide), if_neg (by decide), if_pos rfl]
  show (escN d).bind _ = _
  rw [h]
  rfl
theorem bad_esc {d : Nat} (h : escN d = none) : badT [34, 97, 92, d, 34] := bad_quote fun rest hb p e => by
  have : qv ([97, 92, d, 34] ++ rest) = none := qv_a _ (by decide) (by decide) (by decide) (qv_e0 h)
  rw [this] at e
  cases e
theorem bad_nl : badT [34, 97, 10, 98, 34] := bad_quote fun rest hb p e => by
  have : qv ([97, 10, 98, 34] ++ rest) = none := qv_a _ (by decide) (by decide) (by decide) (by
    show qv (10 :: _) = none
    rw [qv_cons, if_pos rfl])
  rw [this] at e
  cases e
theorem bad_end : badT [34, 97, 92] := bad_quote fun rest hb p e => by
  have : qv ([97, 92] ++ rest) = none := qv_a _ (by decide) (by decide) (by decide) (by
    show qv (92 :: rest) = none
    cases rest with
    | nil => rw [qv_cons, if_neg (by decide), if_neg (by decide), if_pos rfl]
    | cons d r =>
      refine qv_e0 ?_
      rcases hb.2 d rfl with rfl | rfl <;> rfl)
  rw [this] at e
  cases e
abbrev ODD : Str := "ABCDEFGHIJKLMNOPQRSTUVWXYZ0123456789!#$&'*-./:<>?@\\^_`|~"
theorem odd_all : (ODD.cps.toList.all fun c => !sch c && decide (c ≠ 10) && decide (c ≠ 32) && decide (c ≠ 34) && decide (c ∉ SGN.cps.toList)) = true := by decide +kernel
theorem bad_sign {c : Nat} (m : c ∈ ODD.cps.toList) : badT [c] := by
  have h := List.all_eq_true.mp odd_all c m
  simp only [Bool.and_eq_true, decide_eq_true_eq, Bool.not_eq_true'] at h
  obtain ⟨⟨⟨⟨h1, h10⟩, h32⟩, h34⟩, hs⟩ := h
  refine ⟨⟨c, [], rfl, h10, h32⟩, fun rest hb => ?_⟩
  show (tokL (c :: rest)).2.2 = 0
  rw [tokL, if_neg (by rw [h1]; exact fun z => nomatch z), if_neg h34, if_neg (fun z => by
    rcases hb.2 61 z.2 with q | q <;> cases q), if_neg hs]
theorem badR_all {a b : List Nat} (ha : a ∈ [[], [32], [10]]) (hb : b ∈ [[], [32, 115, 101, 116, 32, 120], [10, 115, 101, 116], [32, 55], [10, 34, 97, 34]]) : badR (a ++ b) := by
  have dec : ∀ l : List Nat, l.head? = some 32 ∨ l.head? = some 10 ∨ l = [] → ∀ d, l.head? = some d → d = 32 ∨ d = 10 := by
    rintro l (h | h | rfl) d e
    · rw [h] at e; exact .inl (Option.some.inj e).symm
    · rw [h] at e; exact .inr (Option.some.inj e).symm
    · cases e
  simp only [List.mem_cons, List.not_mem_nil, or_false] at ha hb
  rcases ha with rfl | rfl | rfl <;> rcases hb with rfl | rfl | rfl | rfl | rfl
  all_goals exact ⟨by decide +kernel, dec _ (by decide)⟩
/-! ### texts laid out -/
def adv (g : List Nat) (p : Int × Int) : Int × Int := g.foldl (fun p d => if d = 10 then (p.1 + 1, 1) else (p.1, p.2 + 1)) p
theorem adv_snoc (g : List Nat) (d : Nat) (p : Int × Int) : adv (g ++ [d]) p = if d = 10 then ((adv g p).1 + 1, 1) else ((adv g p).1, (adv g p).2 + 1) := by
  unfold adv
  rw [List.foldl_append]
  rfl
theorem lex_gap : ∀ (g rest : List Nat) (line col : Int), (∀ d ∈ g, d = 32 ∨ d = 10) → lexF (g ++ rest) line col = lexF rest (adv g (line, col)).1 (adv g (line, col)).2
  | [], rest, line, col, _ => rfl
  | d :: g, rest, line, col, h => by
    have ih := fun l c => lex_gap g rest l c fun e m => h e (List.mem_cons_of_mem _ m)
    show lexF (d :: (g ++ rest)) line col = _
    rw [lexF_step]
    rcases h d List.mem_cons_self with rfl | rfl
    · rw [if_neg (by decide), if_pos rfl, ih]
      rfl
    · rw [if_pos rfl, ih]
      rfl
abbrev Wt := List Nat × Str × List Nat
def lastW (ws : List Wt) : List Nat := (ws.getLast?.map (·.1)).getD []
inductive Lay : List Wt → List Nat → Int → Int → List (Int × Int) → Prop
  | nil : Lay [] [] 1 1 []
  | snoc {ws T line col PL} {w : Wt} {g : List Nat} : Lay ws T line col PL → (∀ d ∈ g, d = 32 ∨ d = 10) → (g = [] → fits (lastW ws) w.1) →
      Lay (ws ++ [w]) (T ++ g ++ w.1) (adv g (line, col)).1 ((adv g (line, col)).2 + w.1.length) (PL ++ [adv g (line, col)])
def rowsW : List Wt → List (Int × Int) → List D
  | w :: ws, p :: ps => .tup [.str w.2.1, .str (mkS w.2.2), .int p.1, .int p.2] :: rowsW ws ps
  | _, _ => []
theorem rows_snoc : ∀ (ws : List Wt) (ps : List (Int × Int)) (w : Wt) (p : Int × Int), ws.length = ps.length → rowsW (ws ++ [w]) (ps ++ [p]) = rowsW ws ps ++ [.tup [.str w.2.1, .str (mkS w.2.2), .int p.1, .int p.2]]
  | [], [], w, p, _ => rfl
  | [], _ :: _, w, p, h => by cases h
  | _ :: _, [], w, p, h => by cases h
  | v :: ws, q :: ps, w, p, h => by
    show _ :: rowsW (ws ++ [w]) (ps ++ [p]) = _
    rw [rows_snoc ws ps w p (by simpa using h)]
    rfl
theorem Lay.len {ws : List Wt} {T : List Nat} {line col : Int} {PL : List (Int × Int)} (l : Lay ws T line col PL) : ws.length = PL.length := by
  induction l with
  | nil => rfl
  | snoc _ _ _ ih => rw [List.length_append, List.length_append, ih]; rfl
theorem lastW_snoc {ws : List Wt} {w : Wt} : lastW (ws ++ [w]) = w.1 := by
  unfold lastW
  rw [List.getLast?_append]
  rfl
def goodW (w : Wt) : Prop := goodT w.1 w.2.1 w.2.2
theorem Lay.good {ws : List Wt} {T : List Nat} {line col : Int} {PL : List (Int × Int)} (l : Lay ws T line col PL) : (∀ w ∈ ws, goodW w) → ∀ rest, fits (lastW ws) rest → lexF (T ++ rest) 1 1 = rowsW ws PL ++ lexF rest line col := by
  induction l with
  | nil => exact fun _ rest _ => rfl
  | @snoc ws T line col PL w g l0 hg hf ih =>
    intro hall rest hr
    have ih := ih fun v m => hall v (List.mem_append_left _ m)
    have hw : goodW w := hall w (List.mem_append_right _ (List.mem_singleton.mpr rfl))
    rw [lastW_snoc] at hr
    have e : T ++ g ++ w.1 ++ rest = T ++ (g ++ (w.1 ++ rest)) := by simp
    have f1 : fits (lastW ws) (g ++ (w.1 ++ rest)) := by
      cases g with
      | nil =>
        have hf := hf rfl
        obtain ⟨⟨c, r, ec, _⟩, _⟩ := hw
        intro a b ha hb
        refine hf a b ha ?_
        rw [ec] at hb ⊢
        exact hb
      | cons d g => exact fits_bl (hg d List.mem_cons_self)
    rw [e, ih _ f1, lex_gap g _ _ _ hg, good_step hw hr, rows_snoc _ _ _ _ l0.len]
    simp
/-- the last one, as the law repairs its place -/
theorem Lay.bad {ws : List Wt} {T g o rest : List Nat} {line col : Int} {PL : List (Int × Int)} (l : Lay ws T line col PL) (hall : ∀ w ∈ ws, goodW w) (hg : ∀ d ∈ g, d = 32 ∨ d = 10) (hf : g = [] → fits (lastW ws) o) (ho : badT o) (hr : badR rest) :
    lexF (T ++ g ++ o ++ rest) 1 1 = rowsW ws PL ++ [.tup [.str "error", .str "", .int (adv g (line, col)).1, .int (adv g (line, col)).2]] ∧
    lexF (T ++ g ++ [32] ++ o ++ rest) 1 1 = rowsW ws PL ++ [.tup [.str "error", .str "", .int (adv g (line, col)).1, .int ((adv g (line, col)).2 + 1)]] := by
  obtain ⟨⟨c, r, ec, h10, h32⟩, _⟩ := id ho
  constructor
  · have e : T ++ g ++ o ++ rest = T ++ (g ++ (o ++ rest)) := by simp
    have f1 : fits (lastW ws) (g ++ (o ++ rest)) := by
      cases g with
      | nil =>
        have hf := hf rfl
        intro a b ha hb
        refine hf a b ha ?_
        rw [ec] at hb ⊢
        exact hb
      | cons d g => exact fits_bl (hg d List.mem_cons_self)
    rw [e, l.good hall _ f1, lex_gap g _ _ _ hg, bad_step ho hr]
  · have e : T ++ g ++ [32] ++ o ++ rest = T ++ (g ++ (32 :: (o ++ rest))) := by simp
    have f1 : fits (lastW ws) (g ++ (32 :: (o ++ rest))) := by
      cases g with
      | nil => exact fits_bl (.inl rfl)
      | cons d g => exact fits_bl (hg d List.mem_cons_self)
    rw [e, l.good hall _ f1, lex_gap g _ _ _ hg, lexF_step, if_neg (by decide), if_pos rfl, bad_step ho hr]
end Vi

set_option Elab.async false
set_option linter.all false
set_option autoImplicit false
set_option maxRecDepth 100000
set_option maxHeartbeats 2000000
namespace Vi
open PySem PySem.Spec PyProof.Rows L2
open scoped Classical
local macro_rules | `(tactic| walk_at "x1") => `(tactic| with_reducible first
  | refine x_bin ?_ | refine x_tst ?_ | refine x_oB ?_ | refine x_c ?_ | refine s_seqA ?_ | refine s_seqU ?_ | refine s_seqE ?_ | refine s_seqN ?_ | refine s_asg' ?_ | refine s_if' ?_ | refine s_ret' ?_ | refine s_exp' ?_ | refine s_next ?_ | refine s_retN' ?_ | refine s_sub' ?_
  | refine x_cb ?_ | refine x_cons ?_ | refine x_nil ?_ | refine x_call ?_ | refine x_met ?_ | refine x_un ?_ | refine x_notT ?_ | refine x_andT ?_ | refine x_orT ?_ | refine x_and ?_ | refine x_or ?_ | refine x_not ?_ | refine x_if ?_
  | refine x_tup ?_ | refine x_lst ?_ | refine x_cel ?_ | refine x_sl ?_ | refine x_noP ?_ | refine x_part ?_ | refine x_oI ?_ | refine x_mI ?_ | refine x_rng ?_ | refine x_yes ?_ | refine x_chn ?_ | refine x_fun ?_ | refine x_ok ?_)
local macro_rules | `(tactic| walk_at "x2") => `(tactic| first
  | ((with_reducible refine y_var ?_); refine ⟨_, rfl, ?_⟩)
  | ((with_reducible refine y_some ?_); refine ⟨_, rfl, ?_⟩)
  | ((with_reducible refine y_gP ?_); refine ⟨_, rfl, ?_⟩))
local macro_rules | `(tactic| walk_at "x") => `(tactic| repeat (first | walk_at "x1" | walk_at "x2" ))
local macro_rules | `(tactic| walk_at "nx") => `(tactic| (refine next_k (by assumption) (by assumption) (by first | decide | omega) (by first | decide | omega) ?_))

/-! ### what the law draws -/
theorem len_mkS (l : List Nat) : (mkS l).length = l.length := by show (List.toArray l).size = _; simp
theorem mkS_app (a b : List Nat) : mkS a ++ mkS b = mkS (a ++ b) := TL.ext_tl (by rw [TL.tl_append, tl_mkS, tl_mkS, tl_mkS])
theorem str_item {l : List Nat} {pre post : List D} {x : D} (e : l.map (fun c => D.str (ch c)) = pre ++ x :: post) : ∃ c, x = .str (ch c) ∧ pre.length < l.length ∧ l.take (pre.length + 1) = l.take pre.length ++ [c] := by
  have hq := congrArg List.length e
  simp only [List.length_map, List.length_append, List.length_cons] at hq
  have hl : pre.length < l.length := by omega
  have h2 : (l.map (fun c => D.str (ch c)))[pre.length]? = some x := by rw [e]; simp
  rw [List.getElem?_map, List.getElem?_eq_getElem hl] at h2
  exact ⟨l[pre.length], (Option.some.inj h2).symm, hl, List.take_succ_eq_append_getElem hl⟩
theorem em0 : ("" : Str) = mkS [] := by decide +kernel
def wordOk (z : Str) : Bool := match TL.tl z with
  | [] => false
  | c :: r => sch c && r.all wch && decide (r.length < 20)
theorem wordOk_good {z : Str} (h : wordOk z = true) : goodT (TL.tl z) "word" (TL.tl z) := by
  unfold wordOk at h
  cases e : TL.tl z with
  | nil => rw [e] at h; cases h
  | cons c r =>
    rw [e] at h
    simp only [Bool.and_eq_true, decide_eq_true_eq, List.all_eq_true] at h
    exact good_word h.1.1 h.1.2 h.2
abbrev RES : List Str := ["set", "make", "by", "with", "from", "needs", "if", "else", "each", "in", "shape", "use", "not", "files", "flag", "when"]
section
variable {t h : Hap} {ns : List Int} {P : D → Hap → Prop}
theorem law_quote_k {v : Str} (hl : v.length ≤ 1000) (k : P (.str (mkS (34 :: (escL (TL.tl v) ++ [34])))) h) : Sat (Mi.m_law_quote [.str v] h) P := by
  have lv := TL.len_tl v
  have q34 : ("\"" : Str) = mkS [34] := by decide +kernel
  have q92 : ("\\" : Str) = mkS [92] := by decide +kernel
  have q9n : ("\\n" : Str) = mkS [92, 110] := by decide +kernel
  unfold Mi.m_law_quote Mi.b_law_quote
  walk_at "x"
  refine s_seq (s_forI (fun pre post e h' => h' = h ∧ ∃ x2 : Option D, e = [some (.str v), some (.str (mkS (escL ((TL.tl v).take pre.length)))), x2]) ?_)
  walk_at "x"
  refine ⟨_, rfl, ⟨rfl, none, by rw [em0]; rfl⟩, fun _ _ _ _ _ _ => rfl, ?_, ?_⟩
  · rintro pre x post e h' hx ⟨rfl, x2, rfl⟩
    obtain ⟨c, rfl, hpl, htk⟩ := str_item hx
    have hel := esc_len ((TL.tl v).take pre.length)
    have htl : ((TL.tl v).take pre.length).length ≤ 1000 := by rw [List.length_take]; omega
    have chq : ∀ (d : Nat) (y : Str), y = ch d → decide (ch c = y) = (c == d) := fun d y e => by rw [e, ch_eq]
    have fin : ∀ pc : List Nat, pc = (if c = 10 then [92, 110] else if c = 34 ∨ c = 92 then [92, c] else [c]) → ∃ x2 : Option D, [some (D.str v), some (.str (mkS (escL ((TL.tl v).take pre.length) ++ pc))), some (.str (ch c))] = [some (D.str v), some (.str (mkS (escL ((TL.tl v).take (pre ++ [D.str (ch c)]).length)))), x2] := fun pc e => ⟨some (.str (ch c)), by
      rw [e, List.length_append, List.length_singleton, htk, esc_snoc]⟩
    have lenm : (mkS (escL ((TL.tl v).take pre.length))).length ≤ 2000 := by rw [len_mkS]; omega
    refine ⟨_, rfl, ?_⟩
    walk_at "x"
    refine ⟨fun e => ?_, fun e => ?_⟩
    · have e : decide (ch c = ("\n" : Str)) = true := e
      rw [chq 10 _ (by decide +kernel)] at e
      have h10 : c = 10 := by simpa using e
      walk_at "x"
      rw [q9n]
      refine v_adds (sl_le (by rw [len_mkS [92, 110]]; show _ + 2 ≤ _; omega)) ?_
      rw [mkS_app]
      exact ⟨rfl, fin _ (by rw [if_pos h10])⟩
    · have e : decide (ch c = ("\n" : Str)) = false := e
      rw [chq 10 _ (by decide +kernel)] at e
      have h10 : c ≠ 10 := by simpa using e
      walk_at "x"
      have two : (c = 34 ∨ c = 92) → SatS (mAsg (mBin dAdd (mBin dAdd (mVar 1) (mC (D.str "\\"))) (mVar 2)) (gNm 1) [some (D.str v), some (D.str (mkS (escL ((TL.tl v).take pre.length)))), some (D.str (ch c))] h') ⟨fun e h => h = h' ∧ ∃ x2 : Option D, e = [some (D.str v), some (D.str (mkS (escL ((TL.tl v).take (pre ++ [D.str (ch c)]).length)))), x2], fun _ _ => False, fun _ _ => False, fun _ _ => False⟩ := fun hc => by
        walk_at "x"
        rw [q92]
        refine v_adds (sl_le (by rw [len_mkS [92]]; show _ + 1 ≤ _; omega)) ?_
        rw [mkS_app]
        walk_at "x"
        rw [ch_mkS]
        have l3 : (mkS (escL ((TL.tl v).take pre.length) ++ [92])).length ≤ 2001 := by rw [len_mkS, List.length_append, List.length_singleton]; omega
        refine v_adds (sl_le (by rw [len_mkS [c]]; show _ + 1 ≤ _; omega)) ?_
        rw [mkS_app, List.append_assoc]
        exact ⟨rfl, fin _ (by rw [if_neg h10, if_pos hc]; rfl)⟩
      refine ⟨fun e => ⟨fun _ => ?_, fun z => (nomatch z)⟩, fun e => ?_⟩
      · have e : decide (ch c = ("\"" : Str)) = true := e
        rw [chq 34 _ (by decide +kernel)] at e
        exact (two (.inl (by simpa using e))).mono (fun _ _ z => z) (fun _ _ z => z.elim) (fun _ _ z => z.elim) fun _ _ z => z.elim
      · have e : decide (ch c = ("\"" : Str)) = false := e
        rw [chq 34 _ (by decide +kernel)] at e
        have h34 : c ≠ 34 := by simpa using e
        walk_at "x"
        refine ⟨fun e => ?_, fun e => ?_⟩
        · have e : decide (ch c = ("\\" : Str)) = true := e
          rw [chq 92 _ (by decide +kernel)] at e
          exact (two (.inr (by simpa using e))).mono (fun _ _ z => z) (fun _ _ z => z.elim) (fun _ _ z => z.elim) fun _ _ z => z.elim
        · have e : decide (ch c = ("\\" : Str)) = false := e
          rw [chq 92 _ (by decide +kernel)] at e
          have h92 : c ≠ 92 := by simpa using e
          walk_at "x"
          rw [ch_mkS]
          refine v_adds (sl_le (by rw [len_mkS [c]]; show _ + 1 ≤ _; omega)) ?_
          rw [mkS_app]
          exact ⟨rfl, fin _ (by rw [if_neg h10, if_neg (by omega)])⟩
  · rintro e h' ⟨rfl, x2, rfl⟩
    have et : (TL.tl v).take (v.cps.toList.map fun c => D.str (ch c)).length = TL.tl v := List.take_of_length_le (by rw [List.length_map]; exact Nat.le_refl _)
    have hel := esc_len (TL.tl v)
    dsimp only
    rw [et]
    walk_at "x"
    rw [q34]
    refine v_adds (sl_le (by rw [len_mkS, len_mkS]; show 1 + _ ≤ _; omega)) ?_
    rw [mkS_app]
    walk_at "x"
    refine v_adds (sl_le (by rw [len_mkS, len_mkS, List.length_append]; show 1 + _ + 1 ≤ _; omega)) ?_
    rw [mkS_app]
    exact k
theorem law_value_k (hs : St t h) (hn : ns.length ≤ 63) (k : ∀ z h', z.length ≤ 100 → St t h' → P (.str z) h') : Sat (Mi.m_law_value [.ref 0, scr ns] h) P := by
  unfold Mi.m_law_value Mi.b_law_value
  walk_at "x"
  refine words_k hs hn fun z0 h0 hz0 s0 => ?_
  walk_at "x"
  refine s_cut (fun e h => ∃ z : Str, e = [some (.ref 0), some (scr ns), some (.str z)] ∧ z.length ≤ 100 ∧ St t h) ?_ ?_
  · walk_at "x"
    walk_at "nx"
    intro r1 h1 a1 b1 s1
    walk_at "x"
    refine ⟨fun _ => ?_, fun _ => ?_⟩
    · walk_at "x"
      refine v_lens (sl_le (by omega)) ?_
      walk_at "x"
      refine v_muls ⟨by omega, by omega, by show 1 * _ ≤ sizeLine; rw [sizeLine_eq]; omega⟩ ?_
      have hl := len_rep "x" ((100 : Int) - z0.length).toNat
      generalize (⟨(List.replicate ((100 : Int) - z0.length).toNat ("x" : Str).cps.toList).flatten.toArray⟩ : Str) = w at hl
      have hl1 : ("x" : Str).length = 1 := by decide
      rw [hl1] at hl
      refine v_adds (sl_le (by omega)) ?_
      exact ⟨_, rfl, by rw [len_app]; omega, s1⟩
    · walk_at "x"
      exact ⟨_, rfl, by omega, s1⟩
  rintro e h2 ⟨z, rfl, hz, s2⟩
  refine s_cut (fun e h => ∃ z : Str, e = [some (.ref 0), some (scr ns), some (.str z)] ∧ z.length ≤ 900 ∧ St t h) ?_ ?_
  · walk_at "x"
    walk_at "nx"
    intro r1 h1 a1 b1 s1
    walk_at "x"
    refine ⟨fun _ => ?_, fun _ => ?_⟩
    · walk_at "x"
      walk_at "nx"
      intro r3 h3 a3 b3 s3
      walk_at "x"
      have hm : z.length * ((2 : Int) + r3).toNat ≤ 100 * 9 := Nat.mul_le_mul hz (by omega)
      refine v_muls ⟨by omega, by omega, by rw [sizeLine_eq]; omega⟩ ?_
      have hl := len_rep z ((2 : Int) + r3).toNat
      generalize (⟨(List.replicate ((2 : Int) + r3).toNat z.cps.toList).flatten.toArray⟩ : Str) = w at hl
      rw [Nat.mul_comm] at hl
      exact ⟨_, rfl, by omega, s3⟩
    · walk_at "x"
      exact ⟨_, rfl, by omega, s1⟩
  rintro e h3 ⟨z, rfl, hz, s3⟩
  walk_at "x"
  refine v_slS (sl_le (by omega)) ?_
  refine k _ _ ?_ s3
  show (List.toArray _).size ≤ _
  rw [List.size_toArray, List.length_take]
  have : HT.sIx z.length z.length (some ((100 : Nat) : Int)) ≤ 100 := by rw [HT.sIx_nat]; exact Nat.min_le_left _ _
  have this : HT.sIx z.length z.length (some (100 : Int)) ≤ 100 := this
  omega
theorem reserved_k (k : P (.lst (RES.map .str)) h) : Sat (Mi.m_law_reserved [] h) P := by
  unfold Mi.m_law_reserved Mi.b_law_reserved
  walk_at "x"
  refine ⟨sl_le (by simp), ?_⟩
  walk_at "x"
  refine ⟨sl_le (by simp), ?_⟩
  refine x_some (d := .lst (RES.map .str)) ?_ k
  unfold dAdd
  simp only [getM]
  rw [if_pos (sl_le (by simp))]
  rfl
theorem res_len : ∀ w ∈ RES, w.length ≤ 5 := by decide +kernel
theorem wordOk_mk {c : Nat} {r : List Nat} (hc : sch c = true) (hr : ∀ d ∈ r, wch d = true) (hl : r.length < 20) : wordOk (mkS (c :: r)) = true := by
  unfold wordOk
  rw [tl_mkS]
  simp only [Bool.and_eq_true, decide_eq_true_eq, List.all_eq_true]
  exact ⟨⟨hc, hr⟩, hl⟩
theorem law_name_k (hs : St t h) (hn : ns.length ≤ 63) (k : ∀ z h', wordOk z = true → St t h' → P (.str z) h') : Sat (Mi.m_law_name [.ref 0, scr ns] h) P := by
  unfold Mi.m_law_name Mi.b_law_name
  walk_at "x"
  walk_at "nx"
  intro r0 h0 a0 b0 s0
  walk_at "x"
  refine s_seq ?_
  walk_at "x"
  refine ⟨fun e => ?_, fun _ => ?_⟩
  · have e : r0 < 5 := by simpa using e
    walk_at "x"
    refine ⟨sl_le (by simp), ?_⟩
    walk_at "x"
    obtain ⟨d, e1, m, _⟩ := atI_ok (xs := [D.str "x", .str "y", .str "xs", .str "by_2", .str "sets"]) a0 e
    refine x_some (d := d) e1 ?_
    have : ∃ y : Str, d = .str y ∧ wordOk y = true := by
      simp only [List.mem_cons, List.not_mem_nil, or_false] at m
      rcases m with rfl | rfl | rfl | rfl | rfl
      all_goals exact ⟨_, rfl, by decide +kernel⟩
    obtain ⟨y, rfl, hy⟩ := this
    exact k y _ hy s0
  walk_at "x"
  walk_at "nx"
  intro r1 h1 a1 b1 s1
  have h26 : WST.cps.toList.length = 26 := by decide +kernel
  obtain ⟨c, e1, cm, _⟩ := atI_ok (xs := WST.cps.toList) a1 (by rw [h26]; exact b1)
  refine v_ixS (sl_le (by decide)) e1 ?_
  have hc : sch c = true := decide_eq_true cm
  walk_at "x"
  walk_at "nx"
  intro r2 h2 a2 b2 s2
  walk_at "x"
  refine s_cut (fun e h => ∃ n : Int, 0 ≤ n ∧ n < 20 ∧ e = [some (.ref 0), some (scr ns), some (.str WST), some (.int r0), some (.str (ch c)), some (.int n), none] ∧ St t h) ?_ ?_
  · walk_at "x"
    refine ⟨fun _ => ?_, fun _ => ?_⟩
    · walk_at "x"
      walk_at "nx"
      intro r3 h3 a3 b3 s3
      exact ⟨r3, a3, b3, rfl, s3⟩
    · walk_at "x"
      exact ⟨r2, a2, by omega, rfl, s2⟩
  rintro e h3 ⟨n, n0, n1, rfl, s3⟩
  refine s_cut (fun e h => ∃ (w : Str) (x5 x6 : Option D), wordOk w = true ∧ w.length ≤ 20 ∧ e = [some (.ref 0), some (scr ns), some (.str WST), some (.int r0), some (.str w), x5, x6] ∧ St t h) ?_ ?_
  · refine s_forI (fun pre post e h => ∃ (r : List Nat) (x5 x6 : Option D), (∀ d ∈ r, wch d = true) ∧ r.length = pre.length ∧ e = [some (.ref 0), some (scr ns), some (.str WST), some (.int r0), some (.str (mkS (c :: r))), x5, x6] ∧ St t h) ?_
    walk_at "x"
    refine x_rng1 (by omega) ⟨⟨[], _, _, fun d m => (nomatch m), rfl, rfl, s3⟩, fun _ _ _ _ _ _ => trivial, ?_, ?_⟩
    · rintro pre x post e h4 hx ⟨r, x5, x6, hr, hrl, rfl, s4⟩
      obtain ⟨rfl, hk⟩ := rng_item hx
      refine ⟨_, rfl, ?_⟩
      walk_at "x"
      have eW : (WST ++ ("0123456789_" : Str)) = WSI := by decide +kernel
      rw [eW]
      walk_at "nx"
      intro r5 h5 a5 b5 s5
      have h37 : WSI.cps.toList.length = 37 := by decide +kernel
      obtain ⟨d, e2, dm, _⟩ := atI_ok (xs := WSI.cps.toList) a5 (by rw [h37]; exact b5)
      refine v_ixS (sl_le (by decide)) e2 ?_
      rw [ch_mkS d]
      refine v_adds (sl_le (by rw [len_mkS, len_mkS, List.length_cons]; show _ + 1 ≤ _; omega)) ?_
      rw [mkS_app]
      refine ⟨r ++ [d], _, _, fun y m => ?_, by rw [List.length_append, List.length_append, hrl]; rfl, rfl, s5⟩
      rcases List.mem_append.mp m with m | m
      · exact hr y m
      · rw [List.mem_singleton.mp m]
        exact decide_eq_true dm
    · rintro e h4 ⟨r, x5, x6, hr, hrl, rfl, s4⟩
      have hlr : (rngL 0 n.toNat).length = n.toNat := by simp [rngL]
      have hrl : r.length = (rngL 0 n.toNat).length := hrl
      exact ⟨mkS (c :: r), x5, x6, wordOk_mk hc hr (by omega), by rw [len_mkS, List.length_cons]; omega, rfl, s4⟩
  rintro e h4 ⟨w, x5, x6, hw, hwl, rfl, s4⟩
  refine s_seq ?_
  walk_at "x"
  refine reserved_k ?_
  refine x_some (d := .bl (decide (w ∈ RES))) (by show (inO _ _ _).map D.bl = _; rw [in_strs.2]; rfl) ?_
  walk_at "x"
  refine ⟨fun e => ?_, fun _ => ?_⟩
  · have e := of_decide_eq_true e
    have h5 := res_len w e
    walk_at "x"
    refine v_adds (sl_le (by show _ + 1 ≤ _; omega)) ?_
    have e_ : ("_" : Str) = mkS [95] := by decide +kernel
    have hw2 := hw
    unfold wordOk at hw2
    have ew : w = mkS (TL.tl w) := (mkS_tl w).symm
    cases q : TL.tl w with
    | nil => rw [q] at hw2; cases hw2
    | cons d r =>
      rw [q] at hw2 ew
      simp only [Bool.and_eq_true, decide_eq_true_eq, List.all_eq_true] at hw2
      have hrl : r.length ≤ 5 := by
        have := TL.len_tl w
        rw [q, List.length_cons] at this
        omega
      refine k _ _ ?_ s4
      rw [ew, e_, mkS_app]
      refine wordOk_mk hw2.1.1 (fun y m => ?_) (by show (r ++ [95]).length < 20; rw [List.length_append, List.length_singleton]; omega)
      rcases List.mem_append.mp m with m | m
      · exact hw2.1.2 y m
      · rw [List.mem_singleton.mp m]
        decide +kernel
  · walk_at "x"
    exact k w _ hw s4
abbrev blankS (g : Str) : Prop := ∀ d ∈ TL.tl g, d = 32 ∨ d = 10
theorem law_gap_k {b a : Str} (hs : St t h) (hn : ns.length ≤ 63) (hb : b.length ≤ 1000) (ha : a.length ≤ 1000) (ha0 : TL.tl a ≠ []) (k : ∀ g h', blankS g → g.length ≤ 4 → (TL.tl g = [] → fits (TL.tl b) (TL.tl a)) → St t h' → P (.str g) h') : Sat (Mi.m_law_gap [.ref 0, scr ns, .str b, .str a] h) P := by
  have sp : ("" : Str) ≠ " " := by decide +kernel
  unfold Mi.m_law_gap Mi.b_law_gap
  walk_at "x"
  refine ⟨sl_le (by simp), ?_⟩
  walk_at "x"
  walk_at "nx"
  intro r0 h0 a0 b0 s0
  obtain ⟨d, e1, m, _⟩ := atI_ok (xs := [D.str "", .str " ", .str " ", .str "\n", .str "  ", .str "\n   "]) a0 b0
  refine x_some (d := d) e1 ?_
  have : ∃ g : Str, d = .str g ∧ blankS g ∧ g.length ≤ 4 ∧ (g ≠ "" → TL.tl g ≠ []) := by
    simp only [List.mem_cons, List.not_mem_nil, or_false] at m
    rcases m with rfl | rfl | rfl | rfl | rfl | rfl
    · exact ⟨_, rfl, by decide +kernel, by decide, fun z => absurd rfl z⟩
    all_goals exact ⟨_, rfl, by decide +kernel, by decide, fun _ => by decide +kernel⟩
  obtain ⟨g, rfl, hg, hgl, hg0⟩ := this
  have blank1 : P (.str " ") h0 := k " " h0 (by decide +kernel) (by decide) (fun z => absurd z (by decide +kernel)) s0
  walk_at "x"
  refine s_seq ?_
  walk_at "x"
  refine ⟨fun e => ?_, fun e => ?_⟩
  rotate_left
  · have e : g ≠ "" := of_decide_eq_false e
    refine ⟨fun z => (nomatch z), fun _ => ?_⟩
    walk_at "x"
    refine s_seq ?_
    walk_at "x"
    refine ⟨fun e => absurd (of_decide_eq_true e) ‹_›, fun _ => ?_⟩
    refine ⟨fun z => (nomatch z), fun _ => ?_⟩
    walk_at "x"
    exact k g _ hg hgl (fun z => absurd z (hg0 ‹_›)) s0
  · have e : g = "" := of_decide_eq_true e
    have lb := TL.len_tl b
    have la := TL.len_tl a
    obtain ⟨d, r, ea⟩ : ∃ d r, TL.tl a = d :: r := by
      cases q : TL.tl a with
      | nil => exact absurd q ha0
      | cons d r => exact ⟨d, r, rfl⟩
    have hfa : atI a.cps.toList 0 = some d := by
      have : a.cps.toList = d :: r := ea
      rw [this]
      simp [atI, ixN]
    walk_at "x"
    refine ⟨fun hb0 => ?_, fun hb0 => ?_⟩
    rotate_left
    · have hb0 : b = "" := by simpa using hb0
      refine ⟨fun z => (nomatch z), fun _ => ?_⟩
      walk_at "x"
      refine s_seq ?_
      walk_at "x"
      refine ⟨fun _ => ?_, fun z => absurd e (of_decide_eq_false z)⟩
      walk_at "x"
      refine ⟨fun z => absurd hb0 (by simpa using z), fun _ => ?_⟩
      refine ⟨fun z => (nomatch z), fun _ => ?_⟩
      walk_at "x"
      refine k g _ hg hgl (fun _ => ?_) s0
      rw [hb0]
      exact fits_nil
    have hb0 : b ≠ "" := by simpa using hb0
    obtain ⟨bs, c, eb⟩ : ∃ bs c, TL.tl b = bs ++ [c] := by
      rcases List.eq_nil_or_concat (TL.tl b) with q | ⟨bs, c, q⟩
      · exact absurd (TL.ext_tl (by rw [q]; decide +kernel)) hb0
      · exact ⟨bs, c, by rw [q, List.concat_eq_append]⟩
    have hlb : atI b.cps.toList (-1) = some c := by
      have : b.cps.toList = bs ++ [c] := eb
      rw [this]
      exact atI_last
    have fin : ¬ (wch c = true ∧ wch d = true) → ¬ ((c = 61 ∨ c = 33) ∧ d = 61) → P (.str g) h0 := fun h1 h2 => k g _ hg hgl (fun _ c' d' hc hd => by
      rw [eb, List.getLast?_append] at hc
      rw [ea] at hd
      have hc : c = c' := Option.some.inj hc
      have hd : d = d' := Option.some.inj hd
      rw [← hc, ← hd]
      exact ⟨h1, h2⟩) s0
    have chd : ∀ (e : Nat) (y : Str), y = ch e → decide (ch d = y) = (d == e) := fun e y q => by rw [q, ch_eq]
    have hsg : ("=!" : Str).cps.toList = [61, 33] := by decide +kernel
    have second : ¬ (wch c = true ∧ wch d = true) → SatS (mSeq (mIfS (mAndT (mTst (mBin dEq (mVar 4) (mC (.str "")))) (mAndT (mTst (mBin dNe (mVar 2) (mC (.str "")))) (mAndT (mTst (mBin dIn (mBin dIx (mVar 2) (mUn dNeg (mC (.int 1)))) (mC (.str "=!")))) (mTst (mBin dEq (mBin dIx (mVar 3) (mC (.int 0))) (mC (.str "="))))))) (mRet (mC (.str " "))) mNext) (mRet (mVar 4)) [some (.ref 0), some (scr ns), some (.str b), some (.str a), some (.str g)] h0) ⟨fun _ h => P .non h, P, fun _ _ => False, fun _ _ => False⟩ := fun hw => by
      refine s_seq ?_
      walk_at "x"
      refine ⟨fun _ => ?_, fun z => absurd e (of_decide_eq_false z)⟩
      walk_at "x"
      refine ⟨fun _ => ?_, fun z => absurd hb0 (by simpa using z)⟩
      walk_at "x"
      refine v_ixS (sl_le (by omega)) hlb ?_
      walk_at "x"
      refine ⟨fun e => ?_, fun e => ?_⟩
      · have e : decide (c ∈ ("=!" : Str).cps.toList) = true := e
        rw [hsg] at e
        have hc : c = 61 ∨ c = 33 := by simpa using e
        walk_at "x"
        refine v_ixS (sl_le (by omega)) hfa ?_
        walk_at "x"
        refine ⟨fun e => ?_, fun e => ?_⟩
        · walk_at "x"
          exact blank1
        · have e : decide (ch d = ("=" : Str)) = false := e
          rw [chd 61 _ (by decide +kernel)] at e
          walk_at "x"
          exact fin hw fun z => by rw [z.2] at e; exact absurd e (by decide)
      · have e : decide (c ∈ ("=!" : Str).cps.toList) = false := e
        rw [hsg] at e
        have hc : ¬ (c = 61 ∨ c = 33) := by simpa using e
        refine ⟨fun z => (nomatch z), fun _ => ?_⟩
        walk_at "x"
        exact fin hw fun z => hc z.1
    walk_at "x"
    refine v_ixS (sl_le (by omega)) hlb ?_
    walk_at "x"
    refine wordy_k ?_
    walk_at "x"
    refine ⟨fun hc => ?_, fun hc => ?_⟩
    · have hc : wch c = true := hc
      walk_at "x"
      refine v_ixS (sl_le (by omega)) hfa ?_
      walk_at "x"
      refine wordy_k ?_
      walk_at "x"
      refine ⟨fun hd => ?_, fun hd => ?_⟩
      · walk_at "x"
        exact blank1
      · have hd : wch d = false := hd
        walk_at "x"
        exact second fun z => by rw [hd] at z; exact absurd z.2 (by decide)
    · have hc : wch c = false := hc
      refine ⟨fun z => (nomatch z), fun _ => ?_⟩
      walk_at "x"
      exact second fun z => by rw [hc] at z; exact absurd z.1 (by decide)
end
end Vi

set_option Elab.async false
set_option linter.all false
set_option autoImplicit false
set_option maxRecDepth 100000
set_option maxHeartbeats 2000000
namespace Vi
open PySem PySem.Spec PyProof.Rows L2
open scoped Classical
local macro_rules | `(tactic| walk_at "x1") => `(tactic| with_reducible first
  | refine x_bin ?_ | refine x_tst ?_ | refine x_oB ?_ | refine x_c ?_ | refine s_seqA ?_ | refine s_seqU ?_ | refine s_seqE ?_ | refine s_seqN ?_ | refine s_asg' ?_ | refine s_if' ?_ | refine s_ret' ?_ | refine s_exp' ?_ | refine s_next ?_ | refine s_retN' ?_ | refine s_sub' ?_
  | refine x_cb ?_ | refine x_cons ?_ | refine x_nil ?_ | refine x_call ?_ | refine x_met ?_ | refine x_un ?_ | refine x_notT ?_ | refine x_andT ?_ | refine x_orT ?_ | refine x_and ?_ | refine x_or ?_ | refine x_not ?_ | refine x_if ?_
  | refine x_tup ?_ | refine x_lst ?_ | refine x_cel ?_ | refine x_sl ?_ | refine x_noP ?_ | refine x_part ?_ | refine x_oI ?_ | refine x_mI ?_ | refine x_rng ?_ | refine x_yes ?_ | refine x_chn ?_ | refine x_fun ?_ | refine x_ok ?_)
local macro_rules | `(tactic| walk_at "x2") => `(tactic| first
  | ((with_reducible refine y_var ?_); refine ⟨_, rfl, ?_⟩)
  | ((with_reducible refine y_some ?_); refine ⟨_, rfl, ?_⟩)
  | ((with_reducible refine y_gP ?_); refine ⟨_, rfl, ?_⟩))
local macro_rules | `(tactic| walk_at "x") => `(tactic| repeat (first | walk_at "x1" | walk_at "x2" ))
local macro_rules | `(tactic| walk_at "nx") => `(tactic| (refine next_k (by assumption) (by assumption) (by first | decide | omega) (by first | decide | omega) ?_))
/-! ### characters -/
theorem ch_inj {a b : Nat} (h : ch a = ch b) : a = b := by
  have h2 : #[a] = #[b] := congrArg Str.cps h
  simpa using h2
abbrev CHS : Str := " !\"#$&'()*+,-./0123456789:;<=>?@ABCDEFGHIJKLMNOPQRSTUVWXYZ[\\]^_`" ++ "abcdefghijklmnopqrstuvwxyz{|}~\n"
def plainC (c : Nat) : Bool := c == 10 || (decide (32 ≤ c) && (decide (c ≤ 126) && c != 37))
theorem plain_in (c : Nat) : plainC c = decide (c ∈ CHS.cps.toList) := by
  by_cases h : c < 128
  · exact (by decide +kernel : ∀ c < 128, plainC c = decide (c ∈ CHS.cps.toList)) c h
  · have h1 : plainC c = false := by
      unfold plainC
      have e1 : (c == 10) = false := by simp; omega
      have e2 : decide (c ≤ 126) = false := by simp; omega
      rw [e1, e2]
      simp
    have h2 : c ∉ CHS.cps.toList := fun m => h ((by decide +kernel : ∀ c ∈ CHS.cps.toList, c < 128) c m)
    rw [h1, decide_eq_false h2]
section
variable {h : Hap} {P : D → Hap → Prop}
theorem is_plain_k {c : Nat} (k : P (.bl (plainC c)) h) : Sat (Mi.m_is_plain [.str (ch c)] h) P := by
  unfold Mi.m_is_plain Mi.b_is_plain
  walk_at "x"
  refine ⟨_, rfl, fun e => ?_, fun e => ?_⟩
  · have e1 : ch c = "\n" := of_decide_eq_true e
    have e2 : c = 10 := ch_inj e1
    subst e2
    exact k
  · have e1 : ¬ ch c = "\n" := of_decide_eq_false e
    have e2 : (c == 10) = false := by
      rw [beq_eq_false_iff_ne]
      rintro rfl
      exact e1 rfl
    unfold plainC at k
    rw [e2, Bool.false_or] at k
    walk_at "x"
    refine ⟨_, rfl, fun e3 => ?_, fun e3 => ?_⟩
    · have e3 : (32 : Int) ≤ (c : Int) := of_decide_eq_true e3
      rw [decide_eq_true (show 32 ≤ c by omega), Bool.true_and] at k
      walk_at "x"
      refine ⟨_, rfl, fun e4 => ?_, fun e4 => ?_⟩
      · have e4 : (c : Int) ≤ 126 := of_decide_eq_true e4
        rw [decide_eq_true (show c ≤ 126 by omega), Bool.true_and] at k
        walk_at "x"
        have e5 : (!decide ((c : Int) = 37)) = (c != 37) := by
          rw [Bool.eq_iff_iff]
          simp
          omega
        rw [← e5] at k
        exact k
      · have e4 : ¬ (c : Int) ≤ 126 := of_decide_eq_false e4
        rw [decide_eq_false (show ¬ c ≤ 126 by omega), Bool.false_and] at k
        exact k
    · have e3 : ¬ (32 : Int) ≤ (c : Int) := of_decide_eq_false e3
      rw [decide_eq_false (show ¬ 32 ≤ c by omega), Bool.false_and] at k
      exact ⟨_, rfl, fun z => (nomatch z), fun _ => k⟩
/-- too long, a bad character, or none -/
def faultD (z : Str) : D := if 2000 < z.length then .str "too long" else if z.cps.toList.all plainC = true then .non else .str "bad character"
theorem text_fault_k {z : Str} (hl : z.length ≤ 1000000) (k : P (faultD z) h) : Sat (Mi.m_text_fault [.str z] h) P := by
  unfold Mi.m_text_fault Mi.b_text_fault
  unfold faultD at k
  walk_at "x"
  refine s_seq ?_
  walk_at "x"
  refine v_lens (sl_le (by omega)) ?_
  walk_at "x"
  refine ⟨fun e => ?_, fun e => ?_⟩
  · have e : (2000 : Int) < z.length := of_decide_eq_true e
    rw [if_pos (by omega)] at k
    walk_at "x"
    exact k
  have e : ¬ (2000 : Int) < z.length := of_decide_eq_false e
  rw [if_neg (by omega)] at k
  walk_at "x"
  refine s_seq ?_
  walk_at "x"
  refine x_compM (z.cps.toList.map fun c => .str (ch c)) (fun d => match d with
    | .str s => .bl (plainC (s.cps.getD 0 0))
    | d => d) (by rw [List.length_map, len_list]; exact sl_le (by omega)) (x_signs (x_var rfl ⟨rfl, rfl⟩)) (fun x m => ?_) ?_
  · obtain ⟨c, _, rfl⟩ := List.mem_map.mp m
    refine ⟨_, rfl, ?_⟩
    walk_at "x"
    exact is_plain_k ⟨rfl, rfl⟩
  · walk_at "x"
    refine v_all (bs := z.cps.toList.map plainC) (by
      show some _ = some _
      rw [List.map_map, List.map_map]
      rfl) ?_
    walk_at "x"
    have e2 : (z.cps.toList.map plainC).all id = z.cps.toList.all plainC := by
      rw [List.all_map]
      rfl
    rw [e2]
    refine ⟨fun e => ?_, fun e => ?_⟩
    · have e : z.cps.toList.all plainC = false := by simpa using e
      rw [e, if_neg (by decide)] at k
      walk_at "x"
      exact k
    · have e : z.cps.toList.all plainC = true := by simpa using e
      rw [if_pos e] at k
      walk_at "x"
      exact k
theorem char_x {n : Nat} (hn : n < 95) : ∃ c, CHS.cps.toList[n]? = some c ∧ Sat (Mi.m_law_char [.int (0 + (n : Int))] h) fun d h' => d = .str (ch c) ∧ h' = h := by
  have hl : CHS.cps.toList.length = 95 := by decide +kernel
  obtain ⟨c, e1, _, e2⟩ := atI_ok (xs := CHS.cps.toList) (i := 0 + (n : Int)) (by omega) (by omega)
  refine ⟨c, by rw [← e2]; congr 1; omega, ?_⟩
  unfold Mi.m_law_char Mi.b_law_char
  walk_at "x"
  exact v_ixS (sl_le (by decide +kernel)) e1 ⟨rfl, rfl⟩
theorem law_fault_k {z : Str} (hl : z.length ≤ 1000000) (k : P (faultD z) h) : Sat (Mi.m_law_fault [.str z] h) P := by
  unfold Mi.m_law_fault Mi.b_law_fault
  unfold faultD at k
  walk_at "x"
  refine s_seq ?_
  walk_at "x"
  refine v_lens (sl_le (by omega)) ?_
  walk_at "x"
  refine ⟨fun e => ?_, fun e => ?_⟩
  · have e : (2000 : Int) < z.length := of_decide_eq_true e
    rw [if_pos (by omega)] at k
    walk_at "x"
    exact k
  have e : ¬ (2000 : Int) < z.length := of_decide_eq_false e
  rw [if_neg (by omega)] at k
  walk_at "x"
  refine ⟨rfl, ?_⟩
  walk_at "x"
  refine x_compM (rngL 0 95) (fun d => match d with
    | .int i => .str (ch (CHS.cps.toList.getD i.toNat 0))
    | d => d) (by decide) (x_nums (j := 95) (by decide) (x_cons (x_c (x_nil ⟨rfl, rfl⟩)))) (fun x m => ?_) ?_
  · obtain ⟨n, hn, rfl⟩ := List.mem_map.mp m
    have hn : n < 95 := List.mem_range.mp hn
    refine ⟨_, rfl, ?_⟩
    walk_at "x"
    obtain ⟨c, e1, e2⟩ := char_x (h := h) hn
    refine e2.mono fun d h2 z => ?_
    obtain ⟨rfl, rfl⟩ := z
    refine ⟨?_, rfl⟩
    show D.str (ch c) = .str (ch (CHS.cps.toList.getD (0 + (n : Int)).toNat 0))
    have : (0 + (n : Int)).toNat = n := by omega
    rw [this, List.getD_eq_getElem?_getD, e1]
    rfl
  have e3 : (rngL 0 95).map (fun d => match d with
    | .int i => .str (ch (CHS.cps.toList.getD i.toNat 0))
    | d => d) = (CHS.cps.toList.map ch).map D.str := by
    have e4 : (List.range 95).map (fun n => CHS.cps.toList.getD n 0) = CHS.cps.toList := by decide +kernel
    conv => rhs; rw [← e4]
    unfold rngL
    rw [List.map_map, List.map_map, List.map_map]
    refine List.map_congr_left fun n _ => ?_
    show D.str (ch (CHS.cps.toList.getD (0 + (n : Int)).toNat 0)) = _
    have : (0 + (n : Int)).toNat = n := by omega
    rw [this]
    rfl
  rw [e3]
  generalize hcs : CHS.cps.toList.map ch = cs
  have hj : (cs.map (·.length)).sum + cs.length * ("" : Str).length ≤ 16777216 := by
    rw [← hcs]
    decide +kernel
  refine x_nil ?_
  refine v_join rfl hj ?_
  have e5 : Txt.join "" cs = CHS := by
    rw [← hcs]
    decide +kernel
  rw [e5]
  walk_at "x"
  refine s_seq (s_look (z.cps.toList.map fun c => .str (ch c)) (fun e => ∃ a b, e = [some (.str z), some (.str CHS), a, b]) (fun d => ∃ c, d = .str (ch c) ∧ plainC c = true) (x_signs (x_var rfl ⟨rfl, rfl⟩)) ⟨_, _, rfl⟩ (fun x m e i => ?_) fun e i hg => ?_)
  · obtain ⟨a, b, rfl⟩ := i
    obtain ⟨c, hc, rfl⟩ := List.mem_map.mp m
    refine ⟨_, rfl, ?_⟩
    walk_at "x"
    refine ⟨fun e => ?_, fun e => ?_⟩
    · have e : ¬ c ∈ CHS.cps.toList := by
        have e : (!decide (c ∈ CHS.cps.toList)) = true := e
        simpa using e
      walk_at "x"
      rw [if_neg (fun z => by
        have := List.all_eq_true.mp z c hc
        rw [plain_in, decide_eq_false e] at this
        cases this)] at k
      exact k
    · have e : c ∈ CHS.cps.toList := by
        have e : (!decide (c ∈ CHS.cps.toList)) = false := e
        simpa using e
      walk_at "x"
      exact ⟨rfl, ⟨_, _, rfl⟩, c, rfl, by rw [plain_in, decide_eq_true e]⟩
  · obtain ⟨a, b, rfl⟩ := i
    walk_at "x"
    rw [if_pos (List.all_eq_true.mpr fun c hc => by
      obtain ⟨c', e1, e2⟩ := hg _ (List.mem_map.mpr ⟨c, hc, rfl⟩)
      injection e1 with e1
      rw [ch_inj e1]
      exact e2)] at k
    exact k
end
end Vi


set_option Elab.async false
set_option linter.all false
set_option autoImplicit false
set_option maxRecDepth 100000
set_option maxHeartbeats 2000000
namespace Vi
open PySem PySem.Spec PyProof.Rows L2
open scoped Classical
local macro_rules | `(tactic| walk_at "x1") => `(tactic| with_reducible first
  | refine x_bin ?_ | refine x_tst ?_ | refine x_oB ?_ | refine x_c ?_ | refine s_seqA ?_ | refine s_seqU ?_ | refine s_seqE ?_ | refine s_seqN ?_ | refine s_asg' ?_ | refine s_if' ?_ | refine s_ret' ?_ | refine s_exp' ?_ | refine s_next ?_ | refine s_retN' ?_ | refine s_sub' ?_
  | refine x_cb ?_ | refine x_cons ?_ | refine x_nil ?_ | refine x_call ?_ | refine x_met ?_ | refine x_un ?_ | refine x_notT ?_ | refine x_andT ?_ | refine x_orT ?_ | refine x_and ?_ | refine x_or ?_ | refine x_not ?_ | refine x_if ?_
  | refine x_tup ?_ | refine x_lst ?_ | refine x_cel ?_ | refine x_sl ?_ | refine x_noP ?_ | refine x_part ?_ | refine x_oI ?_ | refine x_mI ?_ | refine x_rng ?_ | refine x_yes ?_ | refine x_chn ?_ | refine x_fun ?_ | refine x_ok ?_)
local macro_rules | `(tactic| walk_at "x2") => `(tactic| first
  | ((with_reducible refine y_var ?_); refine ⟨_, rfl, ?_⟩)
  | ((with_reducible refine y_some ?_); refine ⟨_, rfl, ?_⟩)
  | ((with_reducible refine y_gP ?_); refine ⟨_, rfl, ?_⟩))
local macro_rules | `(tactic| walk_at "x") => `(tactic| repeat (first | walk_at "x1" | walk_at "x2" ))
local macro_rules | `(tactic| walk_at "nx") => `(tactic| (refine next_k (by assumption) (by assumption) (by first | decide | omega) (by first | decide | omega) ?_))
/-! ### newlines -/
abbrev NL : Str := "\n"
theorem tl_nl : TL.tl NL = [10] := by decide +kernel
theorem nl_cases (z : Str) : (10 ∉ TL.tl z ∧ Txt.partition z NL = (z, Str.empty, Str.empty) ∧ Txt.find z NL = -1) ∨
    ∃ a b, z = a ++ NL ++ b ∧ 10 ∉ TL.tl a ∧ Txt.partition z NL = (a, NL, b) ∧ Txt.find z NL = a.length := by
  by_cases hm : 10 ∈ TL.tl z
  · obtain ⟨as, bs, e, hn⟩ := List.eq_append_cons_of_mem hm
    have ez : z = (⟨as.toArray⟩ : Str) ++ NL ++ ⟨bs.toArray⟩ := TL.ext_tl (by
      rw [TL.tl_append, TL.tl_append, tl_nl]
      show TL.tl z = as ++ [10] ++ bs
      rw [e]
      simp)
    have hp := TL.partition_app (y := NL) (b := ⟨bs.toArray⟩) tl_nl (a := ⟨as.toArray⟩) hn
    rw [← ez] at hp
    refine .inr ⟨_, _, ez, hn, hp, ?_⟩
    unfold Txt.partition at hp
    unfold Txt.find
    have hsp := PySem.StrLaws.occ_spec z NL 0 z.length 1
    cases ho : Builtin.Str.occurrences z NL 0 z.length 1 with
    | nil =>
      rw [ho] at hp
      have e2 : Str.empty = NL := (Prod.mk.inj (Prod.mk.inj hp).2).1
      exact absurd (congrArg TL.tl e2) (by decide +kernel)
    | cons i r =>
      rw [ho] at hp hsp
      have e1 := congrArg TL.tl (Prod.mk.inj hp).1
      rw [TL.tl_strSub, TL.tl_mk] at e1
      have h1 := (hsp i List.mem_cons_self).1
      have h2 : NL.length = 1 := by decide +kernel
      have e2 := congrArg List.length e1
      rw [List.length_take, List.drop_zero, ← TL.len_tl] at e2
      have e3 : min (i - 0) z.length = as.length := e2
      clear e1 e2
      show (i : Int) = ((List.toArray as).size : Int)
      rw [List.size_toArray]
      omega
  · refine .inl ⟨hm, TL.partition_none tl_nl hm, ?_⟩
    have hp := TL.partition_none (y := NL) tl_nl hm
    unfold Txt.partition at hp
    unfold Txt.find
    cases ho : Builtin.Str.occurrences z NL 0 z.length 1 with
    | nil => rfl
    | cons i r =>
      rw [ho] at hp
      have e2 : NL = Str.empty := (Prod.mk.inj (Prod.mk.inj hp).2).1
      exact absurd (congrArg TL.tl e2) (by decide +kernel)
theorem in_nl (z : Str) (h : Hap) : dIn (.str NL) (.str z) h = some (.bl (decide (10 ∈ TL.tl z))) := rfl
theorem notin_nl (z : Str) (h : Hap) : dNotIn (.str NL) (.str z) h = some (.bl (!decide (10 ∈ TL.tl z))) := rfl
/-! ### claims -/
def okT (z : Str) : Bool := decide (z.length ≤ 2000) && z.cps.toList.all plainC
theorem isN_fault (z : Str) : isN (faultD z) = okT z := by
  unfold faultD okT
  by_cases h : 2000 < z.length
  · rw [if_pos h, decide_eq_false (by omega)]
    rfl
  · rw [if_neg h, decide_eq_true (by omega), Bool.true_and]
    split
    · next e => rw [e]; rfl
    · next e => rw [Bool.not_eq_true] at e; rw [e]; rfl
def toldB (w t : Str) : Bool := if w = "made" then okT t else decide (w = "failed") && (!decide (10 ∈ TL.tl t) && (decide (t.length ≤ 80) && okT t))
section
variable {h : Hap} {P : D → Hap → Prop}
theorem is_short_k {z : Str} {m : Int} (hl : z.length ≤ 1000000) (k : P (.bl (decide ((z.length : Int) ≤ m) && okT z)) h) : Sat (Mi.m_is_short [.str z, .int m] h) P := by
  unfold Mi.m_is_short Mi.b_is_short
  walk_at "x"
  refine v_lens (sl_le (by omega)) ?_
  walk_at "x"
  refine ⟨_, rfl, fun e => ?_, fun e => ?_⟩
  · have e : decide ((z.length : Int) ≤ m) = true := e
    walk_at "x"
    refine text_fault_k hl ?_
    walk_at "x"
    rw [e, Bool.true_and, ← isN_fault] at k
    exact k
  · have e : decide ((z.length : Int) ≤ m) = false := e
    rw [e, Bool.false_and] at k
    exact k
theorem is_told_k {w t : Str} (hl : t.length ≤ 1000000) (k : P (.bl (toldB w t)) h) : Sat (Mi.m_is_told [.str w, .str t] h) P := by
  unfold Mi.m_is_told Mi.b_is_told
  unfold toldB at k
  walk_at "x"
  refine s_seq ?_
  walk_at "x"
  refine ⟨fun e => ?_, fun e => ?_⟩
  · rw [if_pos (of_decide_eq_true e)] at k
    walk_at "x"
    refine text_fault_k hl ?_
    walk_at "x"
    rw [isN_fault]
    exact k
  rw [if_neg (of_decide_eq_false e)] at k
  walk_at "x"
  refine ⟨_, rfl, fun e => ?_, fun e => ?_⟩
  · have e : decide (w = "failed") = true := e
    rw [e, Bool.true_and] at k
    walk_at "x"
    refine ⟨_, rfl, fun e => ?_, fun e => ?_⟩
    · have e : (!decide (10 ∈ TL.tl t)) = true := e
      rw [e, Bool.true_and] at k
      walk_at "x"
      refine is_short_k hl ?_
      have e3 : decide ((t.length : Int) ≤ 80) = decide (t.length ≤ 80) := by
        rw [Bool.eq_iff_iff, decide_eq_true_iff, decide_eq_true_iff]
        omega
      rw [e3]
      exact k
    · have e : (!decide (10 ∈ TL.tl t)) = false := e
      rw [e, Bool.false_and] at k
      exact k
  · have e : decide (w = "failed") = false := e
    rw [e, Bool.false_and] at k
    exact k
theorem claim_text_k {w t : Str} (hl : w.length + t.length ≤ 1000000) (k : P (.str (w ++ NL ++ t)) h) : Sat (Mi.m_claim_text [.tup [.str w, .str t]] h) P := by
  unfold Mi.m_claim_text Mi.b_claim_text
  have h1 : NL.length = 1 := by decide +kernel
  refine x_fun (s_seq (s_asgT ?_))
  walk_at "x"
  refine ⟨_, rfl, ?_⟩
  walk_at "x"
  refine v_adds (sl_le (by rw [h1]; omega)) ?_
  walk_at "x"
  refine v_adds (sl_le (by rw [len_app, h1]; omega)) ?_
  exact k
theorem read_claim_k {z : Str} {E : EX} (hl : z.length ≤ 100000) (k1 : ∀ a b, z = a ++ NL ++ b → 10 ∉ TL.tl a → toldB a b = true → P (.tup [.str a, .str b]) h)
    (k2 : (10 ∉ TL.tl z ∨ ∃ a b, z = a ++ NL ++ b ∧ 10 ∉ TL.tl a ∧ toldB a b = false) → E "BadMessage" none h) : SatX (Mi.m_read_claim [.str z] h) P E := by
  unfold Mi.m_read_claim Mi.b_read_claim
  have h1 : NL.length = 1 := by decide +kernel
  refine X.fn (X.seq (s_asgT ?_))
  walk_at "x"
  refine ⟨rfl, ?_⟩
  walk_at "x"
  refine x_gP (d := .tup [.str (Txt.partition z NL).1, .str (Txt.partition z NL).2.1, .str (Txt.partition z NL).2.2]) (if_pos ⟨by decide +kernel, sl_le (by omega)⟩) ?_
  refine ⟨_, rfl, ?_⟩
  refine X.seqX (X.ife ?_)
  walk_at "x"
  rcases nl_cases z with ⟨hn, hp, _⟩ | ⟨a, b, ez, hn, hp, _⟩
  · rw [hp]
    refine ⟨fun _ => ⟨fun _ => X.raise0 (k2 (.inl hn)), fun e => nomatch e⟩, fun e => ?_⟩
    have e : decide (Str.empty = ("" : Str)) = false := e
    exact absurd e (by decide +kernel)
  · rw [hp]
    have hlb : b.length ≤ 1000000 := by
      have := congrArg Str.length ez
      rw [len_app, len_app] at this
      omega
    refine ⟨fun e => ?_, fun _ => ?_⟩
    · have e : decide (NL = ("" : Str)) = true := e
      exact absurd e (by decide +kernel)
    walk_at "x"
    refine is_told_k hlb ?_
    walk_at "x"
    refine ⟨fun e => X.raise0 (k2 (.inr ⟨a, b, ez, hn, by simpa using e⟩)), fun e => SatSX.of ?_⟩
    walk_at "x"
    dsimp only
    refine SatSX.of ?_
    walk_at "x"
    exact ⟨sl_le (show 2 ≤ 16777216 by decide), k1 a b ez hn (by simpa using e)⟩
section
variable {t : Hap} {ns : List Int}
theorem doc_k (hs : St t h) (hn : ns.length ≤ 63) (k : ∀ z h', z.length ≤ 6000 → St t h' → P (.str z) h') : Sat (Mi.m_law_doc [.ref 0, scr ns, .bl true] h) P := by
  unfold Mi.m_law_doc Mi.b_law_doc
  walk_at "x"
  refine words_k hs hn fun z1 h1 hz1 s1 => ?_
  refine s_cut (fun e h => ∃ z : Str, e = [some (.ref 0), some (scr ns), some (.bl true), some (.str z), none] ∧ z.length ≤ 2300 ∧ St t h) ?_ ?_
  · walk_at "x"
    refine ⟨fun _ => ?_, fun e => nomatch e⟩
    walk_at "x"
    walk_at "nx"
    intro r h2 a2 b2 s2
    walk_at "x"
    refine ⟨fun e => ?_, fun e => ?_⟩
    · walk_at "x"
      walk_at "nx"
      intro r3 h3 a3 b3 s3
      have hl : ("ab\n" : Str).length = 3 := by decide +kernel
      walk_at "x"
      refine v_muls ⟨by omega, by omega, sl_le (by rw [hl]; omega)⟩ ?_
      have hr := len_rep ("ab\n" : Str) (600 + r3).toNat
      rw [hl] at hr
      refine v_adds (sl_le (by rw [hr]; omega)) ?_
      exact ⟨_, rfl, by rw [len_app, hr]; omega, s3⟩
    · walk_at "x"
      exact ⟨_, rfl, by omega, s2⟩
  rintro _ h2 ⟨z2, rfl, hz2, s2⟩
  refine s_cut (fun e h => ∃ z : Str, e = [some (.ref 0), some (scr ns), some (.bl true), some (.str z), none] ∧ z.length ≤ 4300 ∧ St t h) ?_ ?_
  · walk_at "x"
    refine ⟨fun _ => ?_, fun e => nomatch e⟩
    walk_at "x"
    walk_at "nx"
    intro r h2 a2 b2 s2
    walk_at "x"
    refine ⟨fun e => ?_, fun e => ?_⟩
    · walk_at "x"
      walk_at "nx"
      intro r3 h3 a3 b3 s3
      have hl : ("abcde" : Str).length = 5 := by decide +kernel
      walk_at "x"
      refine v_muls ⟨by omega, by omega, sl_le (by rw [hl]; omega)⟩ ?_
      have hr := len_rep ("abcde" : Str) (400 - r3).toNat
      rw [hl] at hr
      refine v_adds (sl_le (by rw [hr]; omega)) ?_
      exact ⟨_, rfl, by rw [len_app, hr]; omega, s3⟩
    · walk_at "x"
      exact ⟨_, rfl, by omega, s2⟩
  rintro _ h3 ⟨z3, rfl, hz3, s3⟩
  refine s_cut (fun e h => ∃ (z : Str) (x : Option D), e = [some (.ref 0), some (scr ns), some (.bl true), some (.str z), x] ∧ z.length ≤ 6000 ∧ St t h) ?_ ?_
  · walk_at "x"
    refine ⟨fun _ => ?_, fun e => nomatch e⟩
    walk_at "x"
    walk_at "nx"
    intro r h4 a4 b4 s4
    walk_at "x"
    refine ⟨fun e => ?_, fun e => ?_⟩
    · walk_at "x"
      refine v_lens (sl_le (by omega)) ?_
      walk_at "x"
      walk_at "nx"
      intro r5 h5 a5 b5 s5
      have hl : ("\t" : Str).length = 1 := by decide +kernel
      have c1 := len_cutS z3 none (some r5)
      have c2 := len_cutS z3 (some r5) none
      walk_at "x"
      refine v_slS (sl_le (by omega)) ?_
      walk_at "x"
      refine v_adds (sl_le (by rw [hl]; omega)) ?_
      walk_at "x"
      refine v_slS (sl_le (by omega)) ?_
      refine v_adds (sl_le (by rw [len_app, hl]; omega)) ?_
      have c3 : (cutS z3 none (some r5)).length + (cutS z3 (some r5) none).length ≤ 6000 - 1 := by
        have e1 : (cutS z3 none (some r5)).length ≤ r5.toNat := by
          show (List.toArray _).size ≤ _
          rw [List.size_toArray, List.length_take, HT.sIx_none]
          have : HT.sIx z3.length z3.length (some r5) ≤ r5.toNat := by
            show (if r5 < 0 then _ else _) ≤ _
            rw [if_neg (by omega)]
            omega
          omega
        have e2 : (cutS z3 (some r5) none).length ≤ z3.length - r5.toNat := by
          show (List.toArray _).size ≤ _
          rw [List.size_toArray, List.length_take, List.length_drop, HT.sIx_none, len_list]
          have : HT.sIx z3.length 0 (some r5) = min r5.toNat z3.length := by
            show (if r5 < 0 then _ else _) = _
            rw [if_neg (by omega)]
          omega
        omega
      exact ⟨_, _, rfl, by rw [len_app, len_app, hl]; omega, s5⟩
    · walk_at "x"
      exact ⟨_, _, rfl, by omega, s4⟩
  rintro _ h4 ⟨z4, x4, rfl, hz4, s4⟩
  walk_at "x"
  exact k z4 _ hz4 s4
end
end
end Vi

set_option Elab.async false
set_option linter.all false
set_option autoImplicit false
set_option maxRecDepth 100000
set_option maxHeartbeats 2000000
namespace Vi
open PySem PySem.Spec PyProof.Rows L2
open scoped Classical
local macro_rules | `(tactic| walk_at "x1") => `(tactic| with_reducible first
  | refine x_bin ?_ | refine x_tst ?_ | refine x_oB ?_ | refine x_c ?_ | refine s_seqA ?_ | refine s_seqU ?_ | refine s_seqE ?_ | refine s_seqN ?_ | refine s_asg' ?_ | refine s_if' ?_ | refine s_ret' ?_ | refine s_exp' ?_ | refine s_next ?_ | refine s_retN' ?_ | refine s_sub' ?_
  | refine x_cb ?_ | refine x_cons ?_ | refine x_nil ?_ | refine x_call ?_ | refine x_met ?_ | refine x_un ?_ | refine x_notT ?_ | refine x_andT ?_ | refine x_orT ?_ | refine x_and ?_ | refine x_or ?_ | refine x_not ?_ | refine x_if ?_
  | refine x_tup ?_ | refine x_lst ?_ | refine x_cel ?_ | refine x_sl ?_ | refine x_noP ?_ | refine x_part ?_ | refine x_oI ?_ | refine x_mI ?_ | refine x_rng ?_ | refine x_yes ?_ | refine x_chn ?_ | refine x_fun ?_ | refine x_ok ?_)
local macro_rules | `(tactic| walk_at "x2") => `(tactic| first
  | ((with_reducible refine y_var ?_); refine ⟨_, rfl, ?_⟩)
  | ((with_reducible refine y_some ?_); refine ⟨_, rfl, ?_⟩)
  | ((with_reducible refine y_gP ?_); refine ⟨_, rfl, ?_⟩))
local macro_rules | `(tactic| walk_at "x") => `(tactic| repeat (first | walk_at "x1" | walk_at "x2" ))
local macro_rules | `(tactic| walk_at "nx") => `(tactic| (refine next_k (by assumption) (by assumption) (by first | decide | omega) (by first | decide | omega) ?_))

/-! ### a text that is a word -/
def rowAt (d : D) (line col : Int) : Prop := ∃ (a b : Str) (i j : Int), d = .tup [.str a, .str b, .int i, .int j] ∧ line ≤ i ∧ (i = line → col ≤ j) ∧ okS a ∧ okS b
theorem okS_mk {l : List Nat} (h : ∀ c ∈ l, c < 0x110000) : okS (mkS l) := okS_iff.mpr fun c m => h c (by
  have e : (mkS l).cps.toList = l := tl_mkS l
  rw [e] at m
  exact m)
theorem qv_ok : ∀ (n : Nat) (l : List Nat) (p : List Nat × Nat), l.length ≤ n → (∀ c ∈ l, c < 0x110000) → qv l = some p → ∀ c ∈ p.1, c < 0x110000
  | _, [], p, _, _, e => by cases e
  | 0, _ :: _, p, hn, _, _ => by simp at hn
  | n + 1, c :: r, p, hn, h, e => by
    rw [qv_cons] at e
    by_cases h1 : c = 10
    · rw [if_pos h1] at e; cases e
    rw [if_neg h1] at e
    by_cases h2 : c = 34
    · rw [if_pos h2] at e; cases e; exact fun c m => by cases m
    rw [if_neg h2] at e
    by_cases h3 : c = 92
    · rw [if_pos h3] at e
      cases r with
      | nil => cases e
      | cons d r2 =>
        have e : (escN d).bind (fun v => (qv r2).map fun p => (v :: p.1, p.2 + 2)) = some p := e
        obtain ⟨v, ev, e⟩ := Option.bind_eq_some_iff.mp e
        obtain ⟨q, eq, rfl⟩ := Option.map_eq_some_iff.mp e
        have ih := qv_ok n r2 q (by simp at hn; omega) (fun c m => h c (List.mem_cons_of_mem _ (List.mem_cons_of_mem _ m))) eq
        intro c m
        rcases List.mem_cons.mp m with rfl | m
        · unfold escN at ev
          split at ev
          · cases ev; decide
          · split at ev
            · cases ev; decide
            · split at ev
              · cases ev; decide
              · cases ev
        · exact ih c m
    · rw [if_neg h3] at e
      obtain ⟨q, eq, rfl⟩ := Option.map_eq_some_iff.mp e
      have ih := qv_ok n r q (by simp at hn; omega) (fun c m => h c (List.mem_cons_of_mem _ m)) eq
      intro d m
      rcases List.mem_cons.mp m with rfl | m
      · exact h d List.mem_cons_self
      · exact ih d m
theorem tok_ok {l : List Nat} (h : ∀ c ∈ l, c < 0x110000) : okS (tokL l).1 ∧ ∀ c ∈ (tokL l).2.1, c < 0x110000 := by
  have n0 : okS "error" := by decide +kernel
  have n1 : okS "word" := by decide +kernel
  have n2 : okS "text" := by decide +kernel
  have n3 : okS "sign" := by decide +kernel
  have e0 : okS eTk.1 ∧ ∀ c ∈ eTk.2.1, c < 0x110000 := ⟨n0, fun c m => by cases m⟩
  cases l with
  | nil => exact e0
  | cons c r =>
    rw [tokL]
    by_cases h1 : sch c = true
    · rw [if_pos h1]
      by_cases h2 : 20 < runL (c :: r)
      · rw [if_pos h2]; exact e0
      · rw [if_neg h2]; exact ⟨n1, fun d m => h d (List.mem_of_mem_take m)⟩
    · rw [if_neg h1]
      by_cases h3 : c = 34
      · rw [if_pos h3]
        cases q2 : qv r with
        | none => exact e0
        | some p =>
          simp only []
          by_cases h4 : 100 < p.1.length
          · rw [if_pos h4]; exact e0
          · rw [if_neg h4]; exact ⟨n2, qv_ok r.length r p (Nat.le_refl _) (fun d m => h d (List.mem_cons_of_mem _ m)) q2⟩
      · rw [if_neg h3]
        by_cases h5 : (c = 61 ∨ c = 33) ∧ r.head? = some 61
        · rw [if_pos h5]; exact ⟨n3, fun d m => by
            rcases List.mem_cons.mp m with rfl | m
            · exact h d List.mem_cons_self
            · rw [List.mem_singleton.mp m]; decide⟩
        · rw [if_neg h5]
          by_cases h6 : c ∈ SGN.cps.toList
          · rw [if_pos h6]; exact ⟨n3, fun d m => by rw [List.mem_singleton.mp m]; exact h c List.mem_cons_self⟩
          · rw [if_neg h6]; exact e0
theorem lex_at : ∀ (n : Nat) (l : List Nat) (line col : Int), l.length ≤ n → (∀ c ∈ l, c < 0x110000) → ∀ d ∈ lexF l line col, rowAt d line col
  | _, [], line, col, _, _ => fun d m => by cases m
  | 0, _ :: _, _, _, hn, _ => by simp at hn
  | n + 1, c :: r, line, col, hn, h => by
    have hr : ∀ c ∈ r, c < 0x110000 := fun d m => h d (List.mem_cons_of_mem _ m)
    have hn : r.length ≤ n := by simpa using hn
    intro d m
    rw [lexF_step] at m
    by_cases h10 : c = 10
    · rw [if_pos h10] at m
      obtain ⟨a, b, i, j, e, h1, h2, h3⟩ := lex_at n r (line + 1) 1 hn hr d m
      exact ⟨a, b, i, j, e, by omega, fun z => by omega, h3⟩
    rw [if_neg h10] at m
    by_cases h32 : c = 32
    · rw [if_pos h32] at m
      obtain ⟨a, b, i, j, e, h1, h2, h3⟩ := lex_at n r line (col + 1) hn hr d m
      exact ⟨a, b, i, j, e, h1, fun z => by have := h2 z; omega, h3⟩
    rw [if_neg h32] at m
    have ok := tok_ok h
    by_cases h0 : (tokL (c :: r)).2.2 = 0
    · rw [if_pos h0] at m
      rw [List.mem_singleton.mp m]
      exact ⟨_, _, _, _, rfl, Int.le_refl _, fun _ => Int.le_refl _, by decide +kernel, by decide +kernel⟩
    · rw [if_neg h0] at m
      rcases List.mem_cons.mp m with rfl | m
      · exact ⟨_, _, _, _, rfl, Int.le_refl _, fun _ => Int.le_refl _, ok.1, okS_mk ok.2⟩
      · obtain ⟨a, b, i, j, e, h1, h2, h3⟩ := lex_at n _ line _ (by rw [List.length_drop, List.length_cons]; omega) (fun e m => h e (List.mem_of_mem_drop m)) d m
        exact ⟨a, b, i, j, e, h1, fun z => by have := h2 z; omega, h3⟩
theorem tw_all : ∀ (l : List Nat), ∀ d ∈ l.takeWhile wch, wch d = true
  | [], d, m => by cases m
  | c :: l, d, m => by
    by_cases h : wch c = true
    · rw [List.takeWhile_cons, if_pos h] at m
      rcases List.mem_cons.mp m with rfl | m
      · exact h
      · exact tw_all l d m
    · rw [List.takeWhile_cons, if_neg h] at m
      cases m
theorem word_lex {l : List Nat} (h : ∀ c ∈ l, c < 0x110000) : lexF l 1 1 = [.tup [.str "word", .str (mkS l), .int 1, .int 1]] ↔ wordOk (mkS l) = true := by
  constructor
  · intro e
    cases l with
    | nil => cases e
    | cons c r =>
      have hr : ∀ c ∈ r, c < 0x110000 := fun d m => h d (List.mem_cons_of_mem _ m)
      rw [lexF_step] at e
      by_cases h10 : c = 10
      · rw [if_pos h10] at e
        obtain ⟨a, b, i, j, e1, h1, _⟩ := lex_at r.length r 2 1 (Nat.le_refl _) hr _ (by rw [show (2 : Int) = 1 + 1 from rfl, e]; exact List.mem_singleton.mpr rfl)
        injection e1 with e1
        simp at e1
        omega
      rw [if_neg h10] at e
      by_cases h32 : c = 32
      · rw [if_pos h32] at e
        obtain ⟨a, b, i, j, e1, h1, h2, _⟩ := lex_at r.length r 1 2 (Nat.le_refl _) hr _ (by rw [show (2 : Int) = 1 + 1 from rfl, e]; exact List.mem_singleton.mpr rfl)
        injection e1 with e1
        simp at e1
        have := h2 (by omega)
        omega
      rw [if_neg h32] at e
      have ne : ("error" : Str) ≠ "word" := by decide +kernel
      have nt : ("text" : Str) ≠ "word" := by decide +kernel
      have ns : ("sign" : Str) ≠ "word" := by decide +kernel
      by_cases h0 : (tokL (c :: r)).2.2 = 0
      · rw [if_pos h0] at e
        injection e with e
        injection e with e
        injection e with e
        injection e with e
        exact absurd e ne
      rw [if_neg h0] at e
      injection e with e _
      injection e with e
      injection e with e1 e2
      injection e1 with e1
      injection e2 with e2 _
      injection e2 with e2
      have e2 := mkS_inj e2
      rw [tokL] at e1 e2
      by_cases h1 : sch c = true
      · rw [if_pos h1] at e1 e2
        by_cases h2 : 20 < runL (c :: r)
        · rw [if_pos h2] at e1; exact absurd e1 ne
        · rw [if_neg h2] at e2
          have e2 : (c :: r).take (runL (c :: r)) = c :: r := e2
          have hl : runL (c :: r) = (c :: r).length := by
            have := congrArg List.length e2
            have h3 := run_le (c :: r)
            rw [List.length_take] at this
            omega
          have hall : ∀ d ∈ c :: r, wch d = true := by
            have h3 : (c :: r).takeWhile wch = c :: r := (List.takeWhile_prefix wch).eq_of_length hl
            exact fun d m => tw_all _ d (by rw [h3]; exact m)
          exact wordOk_mk h1 (fun d m => hall d (List.mem_cons_of_mem _ m)) (by rw [hl, List.length_cons] at h2; omega)
      · rw [if_neg h1] at e1
        by_cases h3 : c = 34
        · rw [if_pos h3] at e1
          cases q2 : qv r with
          | none => rw [q2] at e1; exact absurd e1 ne
          | some p =>
            rw [q2] at e1
            simp only [] at e1
            by_cases h4 : 100 < p.1.length
            · rw [if_pos h4] at e1; exact absurd e1 ne
            · rw [if_neg h4] at e1; exact absurd e1 nt
        · rw [if_neg h3] at e1
          by_cases h5 : (c = 61 ∨ c = 33) ∧ r.head? = some 61
          · rw [if_pos h5] at e1; exact absurd e1 ns
          · rw [if_neg h5] at e1
            by_cases h6 : c ∈ SGN.cps.toList
            · rw [if_pos h6] at e1; exact absurd e1 ns
            · rw [if_neg h6] at e1; exact absurd e1 ne
  · intro w
    have g := wordOk_good w
    rw [tl_mkS] at g
    have := good_step g (rest := []) fits_nl 1 1
    rw [List.append_nil] at this
    exact this
theorem lay_rows : ∀ {L : List D}, (∀ d ∈ L, ∃ a b i j, d = D.tup [.str a, .str b, .int i, .int j] ∧ okS a ∧ okS b) → ∃ ps, D.pys L = some ps ∧ PyData.canLayAll0 ps = true ∧ PyData.depthAll ps ≤ 1 ∧ ∀ (a b : Str) (i j : Int), PyData.eqvAll ps [.tuple [.str a, .str b, .int i, .int j]] = decide (L = [D.tup [.str a, .str b, .int i, .int j]])
  | [], _ => ⟨[], rfl, rfl, by decide, fun a b i j => by rw [decide_eq_false (by simp)]; rfl⟩
  | d :: L, h => by
    obtain ⟨ps, e1, e2, e3, e4⟩ := lay_rows (L := L) fun x m => h x (List.mem_cons_of_mem _ m)
    obtain ⟨a, b, i, j, rfl, oa, ob⟩ := h d List.mem_cons_self
    refine ⟨.tuple [.str a, .str b, .int i, .int j] :: ps, ?_, ?_, ?_, fun a' b' i' j' => ?_⟩
    · show (match D.py (.tup [.str a, .str b, .int i, .int j]), D.pys L with
        | some x, some xs => some (x :: xs)
        | _, _ => none) = _
      rw [e1]
      rfl
    · have o1 : PyData.strOk a = true := oa
      have o2 : PyData.strOk b = true := ob
      simp [PyData.canLayAll0, PyData.canLay0, o1, o2, e2]
    · simp [PyData.depthAll, PyData.depth]
      omega
    · have hnil : PyData.eqvAll ps [] = decide (L = []) := by
        cases L with
        | nil => cases e1; rfl
        | cons x L =>
          cases ps with
          | nil =>
            have := e1
            simp [D.pys] at this
            split at this <;> cases this
          | cons p ps => rw [decide_eq_false (by simp)]; rfl
      have : PyData.eqvAll (.tuple [.str a, .str b, .int i, .int j] :: ps) [.tuple [.str a', .str b', .int i', .int j']] = (((a == a') && ((b == b') && ((i == i') && ((j == j') && true)))) && PyData.eqvAll ps []) := rfl
      rw [this, hnil, Bool.eq_iff_iff]
      simp [and_assoc]
section
variable {h : Hap} {P : D → Hap → Prop}
theorem is_word_k {z : Str} (hl : z.length ≤ 50000) (hz : ∀ c ∈ TL.tl z, c < 0x110000) (k : ∀ t, P (.bl (wordOk z)) (h ++ t)) : Sat (Mi.m_is_word [.str z] h) P := by
  unfold Mi.m_is_word Mi.b_is_word
  walk_at "x"
  refine tokens2_k hl fun t => ?_
  obtain ⟨ps, e1, e2, e3, e4⟩ := lay_rows (L := lexF (TL.tl z) 1 1) fun d m => by
    obtain ⟨a, b, i, j, e, _, _, o1, o2⟩ := lex_at _ (TL.tl z) 1 1 (Nat.le_refl _) hz d m
    exact ⟨a, b, i, j, e, o1, o2⟩
  have oz : okS z := okS_iff.mpr hz
  have ow : PyData.strOk "word" = true := by decide +kernel
  have oz2 : PyData.strOk z = true := oz
  have hw : decide (lexF (TL.tl z) 1 1 = [.tup [.str "word", .str z, .int 1, .int 1]]) = wordOk z := by
    have := word_lex hz
    rw [mkS_tl] at this
    rw [Bool.eq_iff_iff, decide_eq_true_iff]
    exact this
  refine x_tup (x_cons (x_tup (x_cons (x_c (x_cons (x_var rfl (x_cons (x_c (x_cons (x_c (x_nil ⟨sl_le (by simp), x_nil ⟨sl_le (by simp), ?_⟩⟩)))))))))))
  refine x_some (d := .bl (wordOk z)) ?_ (k t)
  have e5 : pyOf (.tup (lexF (TL.tl z) 1 1)) (h ++ t) = some (.tuple ps) := by
    show (D.pys _).map PyData.tuple = _
    rw [e1]
    rfl
  have e6 : pyOf (.tup [.tup [.str "word", .str z, .int 1, .int 1]]) (h ++ t) = some (.tuple [.tuple [.str "word", .str z, .int 1, .int 1]]) := rfl
  have s1 : SeqAt.shaped (.tuple ps) = true := by
    unfold SeqAt.shaped
    rw [PyData.canLay0, e2, PyData.depth, decide_eq_true (by omega)]
    rfl
  have s2 : SeqAt.shaped (.tuple [.tuple [.str "word", .str z, .int 1, .int 1]]) = true := by
    unfold SeqAt.shaped
    simp [PyData.canLay0, PyData.canLayAll0, ow, oz2, PyData.depth, PyData.depthAll]
  have e7 : eqO (.tup (lexF (TL.tl z) 1 1)) (.tup [.tup [.str "word", .str z, .int 1, .int 1]]) (h ++ t) = some (wordOk z) := by
    unfold eqO
    simp only [e5, e6]
    rw [if_pos ⟨s1, s2⟩, ← hw]
    exact congrArg some (e4 _ _ _ _)
  show (eqO _ _ _).map D.bl = _
  rw [e7]
  rfl
end
end Vi

set_option Elab.async false
set_option linter.all false
set_option autoImplicit false
set_option maxRecDepth 100000
set_option maxHeartbeats 2000000
namespace Vi
open PySem PySem.Spec PyProof.Rows L2
open scoped Classical
local macro_rules | `(tactic| walk_at "x1") => `(tactic| with_reducible first
  | refine x_bin ?_ | refine x_tst ?_ | refine x_oB ?_ | refine x_c ?_ | refine s_seqA ?_ | refine s_seqU ?_ | refine s_seqE ?_ | refine s_seqN ?_ | refine s_asg' ?_ | refine s_if' ?_ | refine s_ret' ?_ | refine s_exp' ?_ | refine s_next ?_ | refine s_retN' ?_ | refine s_sub' ?_
  | refine x_cb ?_ | refine x_cons ?_ | refine x_nil ?_ | refine x_call ?_ | refine x_met ?_ | refine x_un ?_ | refine x_notT ?_ | refine x_andT ?_ | refine x_orT ?_ | refine x_and ?_ | refine x_or ?_ | refine x_not ?_ | refine x_if ?_
  | refine x_tup ?_ | refine x_lst ?_ | refine x_cel ?_ | refine x_sl ?_ | refine x_noP ?_ | refine x_part ?_ | refine x_oI ?_ | refine x_mI ?_ | refine x_rng ?_ | refine x_yes ?_ | refine x_chn ?_ | refine x_fun ?_ | refine x_ok ?_)
local macro_rules | `(tactic| walk_at "x2") => `(tactic| first
  | ((with_reducible refine y_var ?_); refine ⟨_, rfl, ?_⟩)
  | ((with_reducible refine y_some ?_); refine ⟨_, rfl, ?_⟩)
  | ((with_reducible refine y_gP ?_); refine ⟨_, rfl, ?_⟩))
local macro_rules | `(tactic| walk_at "x") => `(tactic| repeat (first | walk_at "x1" | walk_at "x2" ))
local macro_rules | `(tactic| walk_at "nx") => `(tactic| (refine next_k (by assumption) (by assumption) (by first | decide | omega) (by first | decide | omega) ?_))

/-! ### keys as texts -/
abbrev numS (n : Int) : Str := Str.ofString (toString n)
def lns (tool : Str) (as : List Str) (ns : List Int) : List Str := tool :: (as.map (fun a => ("arg " : Str) ++ a) ++ ns.map fun n => ("in " : Str) ++ numS n)
def keyT (ls : List Str) : Str := Txt.join "" (ls.map (· ++ NL))
def digB (z : Str) : Bool := !decide (z = "") && (decide (z.length ≤ 5) && (!decide (z.cps.toList.head? = some 48) && z.cps.toList.all fun c => decide (c ∈ ("0123456789" : Str).cps.toList)))
def shortB (z : Str) : Bool := decide (z.length ≤ 60) && okT z
def argsB (as : List Str) : Bool := decide (as.length ≤ 12) && as.all shortB
def namesB (zs : List Str) : Bool := decide (zs.length ≤ 24) && zs.all digB
section
variable {h : Hap} {P : D → Hap → Prop}
theorem x_fs {c : Str} {b : ME} {env : Env} (hc : c.length ≤ sizeLine) (s : Sat (b env h) fun d h1 => ∃ y, fmtD d = some y ∧ c.length + y.length ≤ sizeLine ∧ P (.str (c ++ y)) h1) : Sat (mFs c b env h) P := by
  unfold mFs
  rw [if_pos hc]
  refine Sat.bind (s.mono fun d h1 ⟨y, e, hl, p⟩ => ?_)
  refine x_some (d := .str (c ++ y)) ?_ p
  rw [e]
  exact if_pos hl
theorem ext_end {xs zs : List D} {d : D} (e : getM d (h ++ [.lst xs]) = some zs) (hl : xs.length + zs.length ≤ 1000000) (k : P .non (h ++ [.lst (xs ++ zs)])) : Sat (gExtend (.ref h.length) [d] (h ++ [.lst xs])) P := by
  unfold gExtend
  simp only []
  rw [List.getElem?_append_right (Nat.le_refl _), Nat.sub_self, e]
  show Sat (if xs.length + zs.length ≤ sizeLine then _ else _) _
  rw [if_pos (by rw [sizeLine_eq]; omega), List.set_append_right _ _ (Nat.le_refl _), Nat.sub_self]
  exact k
def numB (z : Str) (n : Nat) : Bool := !decide (z = "") && (decide (z.length ≤ n) && if decide (z.cps.toList.head? = some 48) = true then decide (z = "0") else z.cps.toList.all fun c => decide (c ∈ ("0123456789" : Str).cps.toList))
theorem is_numeral_k {z : Str} {n : Nat} (hl : z.length ≤ 1000000) (k : P (.bl (numB z n)) h) : Sat (Mi.m_is_numeral [.str z, .int n] h) P := by
  unfold Mi.m_is_numeral Mi.b_is_numeral
  unfold numB at k
  refine x_fun (s_seq ?_)
  walk_at "x"
  refine ⟨fun e => ?_, fun e => ?_⟩
  · have e : decide (z = ("" : Str)) = true := e
    rw [e] at k
    refine ⟨fun _ => ?_, fun q => (nomatch q)⟩
    walk_at "x"
    exact k
  have e : decide (z = ("" : Str)) = false := e
  have hne : z ≠ "" := of_decide_eq_false e
  rw [e, Bool.not_false, Bool.true_and] at k
  walk_at "x"
  refine v_lens (sl_le (by omega)) ?_
  walk_at "x"
  refine ⟨fun e => ?_, fun e => ?_⟩
  · have e : (n : Int) < z.length := of_decide_eq_true e
    rw [decide_eq_false (show ¬ z.length ≤ n by omega), Bool.false_and] at k
    exact k
  have e : ¬ (n : Int) < z.length := of_decide_eq_false e
  rw [decide_eq_true (show z.length ≤ n by omega), Bool.true_and] at k
  obtain ⟨c, r, ez⟩ : ∃ c r, TL.tl z = c :: r := by
    cases q : TL.tl z with
    | nil => exact absurd (TL.ext_tl (by rw [q]; decide +kernel)) hne
    | cons c r => exact ⟨c, r, rfl⟩
  have ez2 : z.cps.toList = c :: r := ez
  have h0 : atI z.cps.toList 0 = some c := by rw [ez2]; simp [atI, ixN]
  have e0 : decide (ch c = ("0" : Str)) = decide (z.cps.toList.head? = some 48) := by
    rw [ez2, show ("0" : Str) = ch 48 by decide +kernel, ch_eq, Bool.eq_iff_iff, decide_eq_true_iff]
    simp
  refine s_seq ?_
  walk_at "x"
  refine v_ixS (sl_le (by omega)) h0 ?_
  walk_at "x"
  refine ⟨fun e => ?_, fun e => ?_⟩
  · have e : decide (ch c = ("0" : Str)) = true := e
    rw [e0] at e
    rw [if_pos e] at k
    walk_at "x"
    exact k
  have e : decide (ch c = ("0" : Str)) = false := e
  rw [e0] at e
  rw [if_neg (by rw [e]; decide)] at k
  walk_at "x"
  refine x_compM (z.cps.toList.map fun c => .str (ch c)) (fun d => match d with
    | .str s => .bl (decide (s.cps.getD 0 0 ∈ ("0123456789" : Str).cps.toList))
    | d => d) (by rw [List.length_map, len_list]; exact sl_le (by omega)) (x_signs (x_var rfl ⟨rfl, rfl⟩)) (fun x m => ?_) ?_
  · obtain ⟨c, _, rfl⟩ := List.mem_map.mp m
    refine ⟨_, rfl, ?_⟩
    walk_at "x"
    exact ⟨rfl, rfl⟩
  · walk_at "x"
    refine v_all (bs := z.cps.toList.map fun c => decide (c ∈ ("0123456789" : Str).cps.toList)) (by
      show some _ = some _
      rw [List.map_map, List.map_map]
      rfl) ?_
    rw [List.all_map]
    exact k
theorem dig_num (z : Str) : (numB z 5 && !decide (z = "0")) = digB z := by
  unfold numB digB
  by_cases h0 : decide (z.cps.toList.head? = some 48) = true
  · rw [if_pos h0, h0]
    cases decide (z = "0") <;> simp
  · rw [if_neg h0]
    have hz : decide (z = "0") = false := decide_eq_false fun e => h0 (by rw [e]; decide +kernel)
    have h0 : decide (z.cps.toList.head? = some 48) = false := by simpa using h0
    rw [hz, h0]
    simp
theorem is_name_k {z : Str} (hl : z.length ≤ 1000000) (k : P (.bl (digB z)) h) : Sat (Mi.m_is_name_2 [.str z] h) P := by
  unfold Mi.m_is_name_2 Mi.b_is_name_2
  rw [← dig_num] at k
  walk_at "x"
  refine is_numeral_k (n := 5) hl ⟨_, rfl, fun e => ?_, fun e => ?_⟩
  · rw [e, Bool.true_and] at k
    walk_at "x"
    exact k
  · rw [e, Bool.false_and] at k
    exact k
theorem are_names_k {zs : List Str} (hl : ∀ z ∈ zs, z.length ≤ 1000000) (hn : zs.length ≤ 1000000) (k : P (.bl (namesB zs)) h) : Sat (Mi.m_are_names_2 [.lst (zs.map .str)] h) P := by
  unfold Mi.m_are_names_2 Mi.b_are_names_2
  unfold namesB at k
  have hlen : dLen [.lst (zs.map .str)] h = some (.int (zs.length : Int)) := by
    show some (D.int ((zs.map D.str).length : Int)) = _
    rw [List.length_map]
  refine x_fun (s_ret' ?_)
  with_reducible refine x_and (x_bin (x_cb (x_cons (x_var rfl (x_nil (x_some hlen (x_c (x_some (d := .bl (decide ((zs.length : Int) ≤ 24))) rfl ?_))))))))
  refine ⟨_, rfl, fun e => ?_, fun e => ?_⟩
  · have e : (zs.length : Int) ≤ 24 := of_decide_eq_true e
    rw [decide_eq_true (show zs.length ≤ 24 by omega), Bool.true_and] at k
    walk_at "x"
    refine x_compM (zs.map .str) (fun d => match d with
      | .str s => .bl (digB s)
      | d => d) (by rw [List.length_map]; exact sl_le (by omega)) (x_items rfl (x_var rfl ⟨rfl, rfl⟩)) (fun x m => ?_) ?_
    · obtain ⟨z, mz, rfl⟩ := List.mem_map.mp m
      refine ⟨_, rfl, ?_⟩
      walk_at "x"
      exact is_name_k (hl z mz) ⟨rfl, rfl⟩
    · walk_at "x"
      refine v_all (bs := zs.map digB) (by
        show some _ = some _
        rw [List.map_map, List.map_map]
        rfl) ?_
      rw [List.all_map]
      exact k
  · have e : ¬ (zs.length : Int) ≤ 24 := of_decide_eq_false e
    rw [decide_eq_false (show ¬ zs.length ≤ 24 by omega), Bool.false_and] at k
    exact k
theorem are_args_k {zs : List Str} (hl : ∀ z ∈ zs, z.length ≤ 1000000) (hn : zs.length ≤ 1000000) (k : P (.bl (argsB zs)) h) : Sat (Mi.m_are_args [.lst (zs.map .str)] h) P := by
  unfold Mi.m_are_args Mi.b_are_args
  unfold argsB at k
  have hlen : dLen [.lst (zs.map .str)] h = some (.int (zs.length : Int)) := by
    show some (D.int ((zs.map D.str).length : Int)) = _
    rw [List.length_map]
  refine x_fun (s_ret' ?_)
  with_reducible refine x_and (x_bin (x_cb (x_cons (x_var rfl (x_nil (x_some hlen (x_c (x_some (d := .bl (decide ((zs.length : Int) ≤ 12))) rfl ?_))))))))
  refine ⟨_, rfl, fun e => ?_, fun e => ?_⟩
  · have e : (zs.length : Int) ≤ 12 := of_decide_eq_true e
    rw [decide_eq_true (show zs.length ≤ 12 by omega), Bool.true_and] at k
    walk_at "x"
    refine x_compM (zs.map .str) (fun d => match d with
      | .str s => .bl (shortB s)
      | d => d) (by rw [List.length_map]; exact sl_le (by omega)) (x_items rfl (x_var rfl ⟨rfl, rfl⟩)) (fun x m => ?_) ?_
    · obtain ⟨z, mz, rfl⟩ := List.mem_map.mp m
      refine ⟨_, rfl, ?_⟩
      walk_at "x"
      refine is_short_k (hl z mz) ?_
      have e3 : decide ((z.length : Int) ≤ 60) = decide (z.length ≤ 60) := by
        rw [Bool.eq_iff_iff, decide_eq_true_iff, decide_eq_true_iff]
        omega
      rw [e3]
      exact ⟨rfl, rfl⟩
    · walk_at "x"
      refine v_all (bs := zs.map shortB) (by
        show some _ = some _
        rw [List.map_map, List.map_map]
        rfl) ?_
      rw [List.all_map]
      exact k
  · have e : ¬ (zs.length : Int) ≤ 12 := of_decide_eq_false e
    rw [decide_eq_false (show ¬ zs.length ≤ 12 by omega), Bool.false_and] at k
    exact k
end
end Vi

set_option Elab.async false
set_option linter.all false
set_option autoImplicit false
set_option maxRecDepth 100000
set_option maxHeartbeats 2000000
namespace Vi
open PySem PySem.Spec PyProof.Rows L2
open scoped Classical
local macro_rules | `(tactic| walk_at "x1") => `(tactic| with_reducible first
  | refine x_bin ?_ | refine x_tst ?_ | refine x_oB ?_ | refine x_c ?_ | refine s_seqA ?_ | refine s_seqU ?_ | refine s_seqE ?_ | refine s_seqN ?_ | refine s_asg' ?_ | refine s_if' ?_ | refine s_ret' ?_ | refine s_exp' ?_ | refine s_next ?_ | refine s_retN' ?_ | refine s_sub' ?_
  | refine x_cb ?_ | refine x_cons ?_ | refine x_nil ?_ | refine x_call ?_ | refine x_met ?_ | refine x_un ?_ | refine x_notT ?_ | refine x_andT ?_ | refine x_orT ?_ | refine x_and ?_ | refine x_or ?_ | refine x_not ?_ | refine x_if ?_
  | refine x_tup ?_ | refine x_lst ?_ | refine x_cel ?_ | refine x_sl ?_ | refine x_noP ?_ | refine x_part ?_ | refine x_oI ?_ | refine x_mI ?_ | refine x_rng ?_ | refine x_yes ?_ | refine x_chn ?_ | refine x_fun ?_ | refine x_ok ?_)
local macro_rules | `(tactic| walk_at "x2") => `(tactic| first
  | ((with_reducible refine y_var ?_); refine ⟨_, rfl, ?_⟩)
  | ((with_reducible refine y_some ?_); refine ⟨_, rfl, ?_⟩)
  | ((with_reducible refine y_gP ?_); refine ⟨_, rfl, ?_⟩))
local macro_rules | `(tactic| walk_at "x") => `(tactic| repeat (first | walk_at "x1" | walk_at "x2" ))
local macro_rules | `(tactic| walk_at "nx") => `(tactic| (refine next_k (by assumption) (by assumption) (by first | decide | omega) (by first | decide | omega) ?_))

/-! ### key_text, read_key -/
def aCut (L : List Str) : List Str := (L.filter fun y => Txt.startswith y "arg ").map fun y => cutS y (some 4) none
def nCut (L : List Str) : List Str := (L.filter fun y => Txt.startswith y "in ").map fun y => cutS y (some 3) none
theorem filter_strs (p : Str → Bool) (f : Str → Str) : ∀ L : List Str, ((L.map D.str).filter fun d => match d with
    | .str y => p y
    | _ => false).map (fun d => match d with
    | .str y => .str (f y)
    | d => d) = ((L.filter p).map f).map D.str
  | [] => rfl
  | y :: L => by
    have ih := filter_strs p f L
    rw [List.map_cons, List.filter_cons, List.filter_cons]
    show List.map _ (if p y = true then _ else _) = _
    by_cases h : p y = true
    · rw [if_pos h, if_pos h, List.map_cons, List.map_cons, List.map_cons, ih]
    · rw [if_neg h, if_neg h, ih]
theorem map_strs (f : Str → Str) (L : List Str) : (L.map D.str).map (fun d => match d with
    | .str y => .str (f y)
    | d => d) = (L.map f).map D.str := by
  rw [List.map_map, List.map_map]
  rfl
def smallN (n : Int) : Prop := n.natAbs.log2 < 1920 ∧ (numS n).length ≤ 1000
section
variable {h : Hap} {P : D → Hap → Prop}
theorem key_text_k {tool : Str} {as : List Str} {ns : List Int} (ht : tool.length ≤ 1000) (ha : as.length ≤ 30) (ha2 : ∀ a ∈ as, a.length ≤ 1000) (hn : ns.length ≤ 30) (hn2 : ∀ n ∈ ns, smallN n)
    (k : ∀ t, P (.str (keyT (lns tool as ns))) (h ++ t)) : Sat (Mi.m_key_text [.tup [.str tool, .tup (as.map .str), .tup (ns.map .int)]] h) P := by
  have l4 : ("arg " : Str).length = 4 := by decide
  have l3 : ("in " : Str).length = 3 := by decide
  have l1 : NL.length = 1 := by decide
  unfold Mi.m_key_text Mi.b_key_text
  refine x_fun (s_seq (s_asgT ?_))
  walk_at "x"
  refine ⟨_, rfl, ?_⟩
  walk_at "x"
  refine ⟨sl_le (by simp), ?_⟩
  walk_at "x"
  refine ⟨isl_end, ?_⟩
  refine x_cons (x_compM (as.map .str) (fun d => match d with
    | .str y => .str (("arg " : Str) ++ y)
    | d => d) (by rw [List.length_map]; exact sl_le (by omega)) (x_items rfl (x_var rfl ⟨rfl, rfl⟩)) (fun x m => ?_) ?_)
  · obtain ⟨z, mz, rfl⟩ := List.mem_map.mp m
    have := ha2 z mz
    refine ⟨_, rfl, ?_⟩
    walk_at "x"
    refine v_adds (sl_le (by rw [l4]; omega)) ?_
    exact ⟨rfl, rfl⟩
  rw [map_strs]
  refine x_nil (ext_end (xs := [.str tool]) (zs := (as.map fun y => ("arg " : Str) ++ y).map .str) rfl (by rw [List.length_map, List.length_map]; show 1 + _ ≤ _; omega) ?_)
  walk_at "x"
  refine ⟨isl_end, ?_⟩
  refine x_cons (x_compM (ns.map .int) (fun d => match d with
    | .int i => .str (("in " : Str) ++ numS i)
    | d => d) (by rw [List.length_map]; exact sl_le (by omega)) (x_items rfl (x_var rfl ⟨rfl, rfl⟩)) (fun x m => ?_) ?_)
  · obtain ⟨i, mi, rfl⟩ := List.mem_map.mp m
    have := hn2 i mi
    refine ⟨_, rfl, ?_⟩
    refine x_fs (sl_le (by rw [l3]; omega)) (x_var rfl ⟨numS i, if_pos this.1, sl_le (by rw [l3]; have := this.2; omega), rfl, rfl⟩)
  have em : (ns.map D.int).map (fun d => match d with
    | .int i => .str (("in " : Str) ++ numS i)
    | d => d) = (ns.map fun i => ("in " : Str) ++ numS i).map D.str := by
    rw [List.map_map, List.map_map]
    rfl
  rw [em]
  refine x_nil (ext_end (zs := (ns.map fun i => ("in " : Str) ++ numS i).map .str) rfl (by rw [List.length_append, List.length_map, List.length_map, List.length_map, List.length_map]; show 1 + _ + _ ≤ _; omega) ?_)
  have el : [D.str tool] ++ (as.map fun y => ("arg " : Str) ++ y).map D.str ++ (ns.map fun i => ("in " : Str) ++ numS i).map D.str = (lns tool as ns).map D.str := by
    unfold lns
    rw [List.map_cons, List.map_append, List.append_assoc]
    rfl
  rw [el]
  have hlen : (lns tool as ns).length ≤ 61 := by
    unfold lns
    rw [List.length_cons, List.length_append, List.length_map, List.length_map]
    omega
  have hall : ∀ y ∈ lns tool as ns, y.length ≤ 1004 := fun y m => by
    unfold lns at m
    rcases List.mem_cons.mp m with rfl | m
    · omega
    rcases List.mem_append.mp m with m | m
    · obtain ⟨z, mz, rfl⟩ := List.mem_map.mp m
      have := ha2 z mz
      rw [len_app, l4]
      omega
    · obtain ⟨i, mi, rfl⟩ := List.mem_map.mp m
      have := (hn2 i mi).2
      rw [len_app, l3]
      omega
  generalize lns tool as ns = L at *
  walk_at "x"
  refine ⟨rfl, ?_⟩
  refine x_cons (x_compM (L.map .str) (fun d => match d with
    | .str y => .str (y ++ NL)
    | d => d) (by rw [List.length_map]; exact sl_le (by omega)) (x_items (dd := .ref h.length) (by
      show getL (.ref h.length) (h ++ [.lst (L.map .str)]) = _
      simp only [getL]
      rw [List.getElem?_append_right (Nat.le_refl _), Nat.sub_self]
      rfl) (x_var rfl ⟨rfl, rfl⟩)) (fun x m => ?_) ?_)
  · obtain ⟨z, mz, rfl⟩ := List.mem_map.mp m
    have := hall z mz
    refine ⟨_, rfl, ?_⟩
    walk_at "x"
    refine v_adds (sl_le (by rw [show ("\n" : Str).length = 1 from l1]; omega)) ?_
    exact ⟨rfl, rfl⟩
  rw [map_strs]
  refine x_nil (v_join (ys := L.map (· ++ NL)) rfl ?_ ?_)
  · have hs := sum_le (ys := L.map (· ++ NL)) (m := 1005) fun y m => by
      obtain ⟨z, mz, rfl⟩ := List.mem_map.mp m
      have := hall z mz
      rw [len_app, l1]
      omega
    have h0 : Str.length "" = 0 := by decide
    rw [List.length_map] at hs
    rw [h0]
    have : L.length * 1005 ≤ 61 * 1005 := Nat.mul_le_mul_right _ hlen
    omega
  · exact k _
theorem read_key_k {z tool : Str} {R : List Str} {val : Str → Int} {E : EX} (hz : z.length ≤ 100000) (hsp : Txt.split z NL = tool :: R) (hR : R.length ≤ 1000) (hall : ∀ y ∈ tool :: R, y.length ≤ 1000) (ht : ∀ c ∈ TL.tl tool, c < 0x110000)
    (hv : ∀ y ∈ nCut (tool :: R), digB y = true → PySem.intText? y = some (val y) ∧ smallN (val y))
    (k1 : wordOk tool = true → argsB (aCut (tool :: R)) = true → namesB (nCut (tool :: R)) = true → keyT (lns tool (aCut (tool :: R)) ((nCut (tool :: R)).map val)) = z → ∀ t, P (.tup [.str tool, .tup ((aCut (tool :: R)).map .str), .tup (((nCut (tool :: R)).map val).map .int)]) (h ++ t))
    (k2 : ¬ (wordOk tool = true ∧ argsB (aCut (tool :: R)) = true ∧ namesB (nCut (tool :: R)) = true ∧ keyT (lns tool (aCut (tool :: R)) ((nCut (tool :: R)).map val)) = z) → ∀ t, E "BadMessage" none (h ++ t)) : SatX (Mi.m_read_key_3 [.str z] h) P E := by
  have l1 : NL.length = 1 := by decide
  have hlA : (tool :: R).length ≤ 1001 := by rw [List.length_cons]; omega
  have cutl : ∀ (L : List Str) (p : Str → Bool) (n : Int), (∀ y ∈ L, y.length ≤ 1000) → ((∀ y ∈ (L.filter p).map fun y => cutS y (some n) none, y.length ≤ 1000) ∧ ((L.filter p).map fun y => cutS y (some n) none).length ≤ L.length) := fun L p n hL => ⟨fun y m => by
    obtain ⟨x, mx, rfl⟩ := List.mem_map.mp m
    have := hL x (List.mem_filter.mp mx).1
    have := len_cutS x (some n) none
    omega, by rw [List.length_map]; exact List.length_filter_le _ _⟩
  have cA := cutl (tool :: R) (fun y => Txt.startswith y "arg ") 4 hall
  have cN := cutl (tool :: R) (fun y => Txt.startswith y "in ") 3 hall
  unfold Mi.m_read_key_3 Mi.b_read_key_3
  refine X.fn (X.seq ?_)
  walk_at "x"
  refine ⟨rfl, ?_⟩
  walk_at "x"
  refine v_split ⟨by decide, sl_le (by omega)⟩ ?_
  rw [show Txt.split z "\n" = tool :: R from hsp]
  generalize hL : tool :: R = L at *
  have h0 : atI (L.map D.str) 0 = some (.str tool) := by rw [← hL]; simp [atI, ixN]
  refine X.seq ?_
  walk_at "x"
  refine v_ixQ (xs := L.map .str) (y := .str tool) rfl h0 ?_
  walk_at "x"
  refine X.seq (s_asg' (x_compFM (L.map .str) (fun d => match d with
    | .str y => Txt.startswith y "arg "
    | _ => false) (fun d => match d with
    | .str y => .str (cutS y (some 4) none)
    | d => d) (by rw [List.length_map]; exact sl_le (by omega)) (x_items rfl (x_var rfl ⟨rfl, rfl⟩)) (fun x m => ?_) ?_))
  · obtain ⟨y, my, rfl⟩ := List.mem_map.mp m
    have := hall y my
    refine ⟨_, rfl, ?_⟩
    refine x_tst (x_met (x_var rfl ⟨rfl, x_cons (x_c (x_nil (x_gP (d := .bl (Txt.startswith y "arg ")) rfl (x_oB ⟨rfl, rfl, fun _ => ?_⟩))))⟩))
    walk_at "x"
    refine v_slS (sl_le (by omega)) ?_
    exact ⟨rfl, rfl⟩
  rw [filter_strs (fun y => Txt.startswith y "arg ") (fun y => cutS y (some 4) none)]
  refine X.seq (s_asg' (x_compFM (L.map .str) (fun d => match d with
    | .str y => Txt.startswith y "in "
    | _ => false) (fun d => match d with
    | .str y => .str (cutS y (some 3) none)
    | d => d) (by rw [List.length_map]; exact sl_le (by omega)) (x_items rfl (x_var rfl ⟨rfl, rfl⟩)) (fun x m => ?_) ?_))
  · obtain ⟨y, my, rfl⟩ := List.mem_map.mp m
    have := hall y my
    refine ⟨_, rfl, ?_⟩
    refine x_tst (x_met (x_var rfl ⟨rfl, x_cons (x_c (x_nil (x_gP (d := .bl (Txt.startswith y "in ")) rfl (x_oB ⟨rfl, rfl, fun _ => ?_⟩))))⟩))
    walk_at "x"
    refine v_slS (sl_le (by omega)) ?_
    exact ⟨rfl, rfl⟩
  rw [filter_strs (fun y => Txt.startswith y "in ") (fun y => cutS y (some 3) none)]
  have htl : tool.length ≤ 1000 := hall tool (by rw [← hL]; exact List.mem_cons_self)
  have eA : ((L.filter fun y => Txt.startswith y "arg ").map fun y => cutS y (some 4) none) = aCut L := rfl
  have eN : ((L.filter fun y => Txt.startswith y "in ").map fun y => cutS y (some 3) none) = nCut L := rfl
  rw [eA, eN]
  have cA : (∀ y ∈ aCut L, y.length ≤ 1000) ∧ (aCut L).length ≤ L.length := cA
  have cN : (∀ y ∈ nCut L, y.length ≤ 1000) ∧ (nCut L).length ≤ L.length := cN
  generalize aCut L = A at *
  generalize nCut L = N at *
  clear eA eN cutl
  refine X.seqX (X.ife ?_)
  walk_at "x"
  refine is_word_k (by omega) ht fun t1 => ?_
  walk_at "x"
  refine ⟨fun e => ?_, fun e => ?_⟩
  · have e : wordOk tool = false := by simpa using e
    exact ⟨fun _ => X.raise0 (k2 (by rw [e]; exact fun z => nomatch z.1) t1), fun q => (nomatch q)⟩
  have eW : wordOk tool = true := by simpa using e
  walk_at "x"
  refine are_args_k (fun y m => by have := cA.1 y m; omega) (by omega) ?_
  walk_at "x"
  refine ⟨fun e => ?_, fun e => ?_⟩
  · have e : argsB A = false := by simpa using e
    exact ⟨fun _ => X.raise0 (k2 (by rw [e]; exact fun z => nomatch z.2.1) t1), fun q => (nomatch q)⟩
  have eA : argsB A = true := by simpa using e
  walk_at "x"
  refine are_names_k (fun y m => by have := cN.1 y m; omega) (by omega) ?_
  walk_at "x"
  refine ⟨fun e => ?_, fun e => ?_⟩
  · have e : namesB N = false := by simpa using e
    exact X.raise0 (k2 (by rw [e]; exact fun z => nomatch z.2.2.1) t1)
  have eN : namesB N = true := by simpa using e
  refine SatSX.of ?_
  refine s_next ?_
  dsimp only
  have eN2 := eN
  unfold namesB at eN2
  rw [Bool.and_eq_true, decide_eq_true_iff, List.all_eq_true] at eN2
  have eA2 := eA
  unfold argsB at eA2
  rw [Bool.and_eq_true, decide_eq_true_iff, List.all_eq_true] at eA2
  have hk : ∀ Q : D → Hap → Prop, Q (.tup [.str tool, .tup (A.map .str), .tup ((N.map val).map .int)]) (h ++ t1) → Sat (mTup (mCons (mVar 2) (mCons (mCB dTupleOf (mCons (mVar 3) mNil)) (mCons (mCB dTupleOf (mCons (mComp (mI (mVar 4)) [7] (gNm 7) mYes (mCB dIntS (mCons (mVar 7) mNil))) mNil)) mNil))) [some (.str z), some (.lst (L.map .str)), some (.str tool), some (.lst (A.map .str)), some (.lst (N.map .str)), none, none, none] (h ++ t1)) Q := fun Q q => by
    refine x_tup (x_cons (x_var rfl (x_cons (x_cb (x_cons (x_var rfl (x_nil (x_some (d := .tup (A.map .str)) rfl ?_))))))))
    refine x_cons (x_cb (x_cons (x_compM (N.map .str) (fun d => match d with
      | .str y => .int (val y)
      | d => d) (by rw [List.length_map]; exact sl_le (by omega)) (x_items rfl (x_var rfl ⟨rfl, rfl⟩)) (fun x m => ?_) ?_)))
    · obtain ⟨y, my, rfl⟩ := List.mem_map.mp m
      have hy := hv y my (eN2.2 y my)
      have hyl := cN.1 y my
      have hd : digB y = true := eN2.2 y my
      have h5 : y.length ≤ 640 := by
        unfold digB at hd
        simp only [Bool.and_eq_true, decide_eq_true_eq] at hd
        omega
      refine ⟨_, rfl, x_cb (x_cons (x_var rfl (x_nil (x_some (d := .int (val y)) ?_ ⟨rfl, rfl⟩))))⟩
      show (if y.length ≤ 640 then (PySem.intText? y).map D.int else none) = _
      rw [if_pos h5, hy.1]
      rfl
    · have em : (N.map D.str).map (fun d => match d with
        | .str y => .int (val y)
        | d => d) = (N.map val).map D.int := by
        rw [List.map_map, List.map_map]
        rfl
      rw [em]
      exact x_nil (x_some (d := .tup ((N.map val).map .int)) rfl (x_nil ⟨sl_le (by simp), q⟩))
  refine X.seq (s_asg' (hk _ ?_))
  dsimp only
  refine X.seqX (X.ife ?_)
  refine x_tst (x_bin (x_call (x_cons (x_var rfl (x_nil (key_text_k htl (by omega) cA.1 (by rw [List.length_map]; omega) (fun n m => ?_) fun t2 => ?_))))))
  · obtain ⟨y, my, rfl⟩ := List.mem_map.mp m
    exact (hv y my (eN2.2 y my)).2
  refine x_var rfl (x_some (d := .bl (!decide (keyT (lns tool A (N.map val)) = z))) rfl (x_oB ?_))
  rw [List.append_assoc]
  refine ⟨fun e => ?_, fun e => ?_⟩
  · refine X.raise0 (k2 (fun q => ?_) (t1 ++ t2))
    rw [decide_eq_true q.2.2.2] at e
    cases e
  · have e : keyT (lns tool A (N.map val)) = z := by simpa using e
    refine SatSX.of ?_
    refine s_next ?_
    dsimp only
    refine SatSX.of (s_ret' (x_var rfl ?_))
    exact k1 eW eA eN e (t1 ++ t2)
end
end Vi

set_option Elab.async false
set_option linter.all false
set_option autoImplicit false
set_option maxRecDepth 100000
set_option maxHeartbeats 2000000
namespace Vi
open PySem PySem.Spec PyProof.Rows L2
open scoped Classical
local macro_rules | `(tactic| walk_at "x1") => `(tactic| with_reducible first
  | refine x_bin ?_ | refine x_tst ?_ | refine x_oB ?_ | refine x_c ?_ | refine s_seqA ?_ | refine s_seqU ?_ | refine s_seqE ?_ | refine s_seqN ?_ | refine s_asg' ?_ | refine s_if' ?_ | refine s_ret' ?_ | refine s_exp' ?_ | refine s_next ?_ | refine s_retN' ?_ | refine s_sub' ?_
  | refine x_cb ?_ | refine x_cons ?_ | refine x_nil ?_ | refine x_call ?_ | refine x_met ?_ | refine x_un ?_ | refine x_notT ?_ | refine x_andT ?_ | refine x_orT ?_ | refine x_and ?_ | refine x_or ?_ | refine x_not ?_ | refine x_if ?_
  | refine x_tup ?_ | refine x_lst ?_ | refine x_cel ?_ | refine x_sl ?_ | refine x_noP ?_ | refine x_part ?_ | refine x_oI ?_ | refine x_mI ?_ | refine x_rng ?_ | refine x_yes ?_ | refine x_chn ?_ | refine x_fun ?_ | refine x_ok ?_)
local macro_rules | `(tactic| walk_at "x2") => `(tactic| first
  | ((with_reducible refine y_var ?_); refine ⟨_, rfl, ?_⟩)
  | ((with_reducible refine y_some ?_); refine ⟨_, rfl, ?_⟩)
  | ((with_reducible refine y_gP ?_); refine ⟨_, rfl, ?_⟩))
local macro_rules | `(tactic| walk_at "x") => `(tactic| repeat (first | walk_at "x1" | walk_at "x2" ))
local macro_rules | `(tactic| walk_at "nx") => `(tactic| (refine next_k (by assumption) (by assumption) (by first | decide | omega) (by first | decide | omega) ?_))

/-! ### lines and their texts -/
theorem tl_emp : TL.tl ("" : Str) = [] := by decide +kernel
theorem tl_keyT : ∀ ls : List Str, TL.tl (keyT ls) = (ls.map fun y => TL.tl y ++ [10]).flatten := by
  intro ls
  unfold keyT
  rw [TL.join_eq, TL.tl_join, tl_emp]
  have : ∀ ls : List Str, TL.joinL [] ((ls.map (· ++ NL)).map TL.tl) = (ls.map fun y => TL.tl y ++ [10]).flatten := by
    intro ls
    induction ls with
    | nil => rfl
    | cons y r ih =>
      cases r with
      | nil =>
        show TL.tl (y ++ NL) = _
        rw [TL.tl_append, tl_nl]
        simp
      | cons z r =>
        show TL.tl (y ++ NL) ++ ([] ++ TL.joinL [] (((z :: r).map (· ++ NL)).map TL.tl)) = _
        rw [ih, TL.tl_append, tl_nl]
        simp
  exact this ls
theorem tl_joinNL : ∀ ls : List Str, TL.tl (Txt.join NL (ls ++ [("" : Str)])) = (ls.map fun y => TL.tl y ++ [10]).flatten := by
  intro ls
  rw [TL.join_eq, TL.tl_join, tl_nl]
  induction ls with
  | nil => exact tl_emp
  | cons y r ih =>
    have : ∃ z q, (r ++ [("" : Str)]) = z :: q := by cases r with
      | nil => exact ⟨_, _, rfl⟩
      | cons z q => exact ⟨_, _, rfl⟩
    obtain ⟨z, q, e⟩ := this
    rw [e] at ih
    rw [List.cons_append, e]
    show TL.tl y ++ ([10] ++ TL.joinL [10] ((z :: q).map TL.tl)) = _
    rw [ih]
    simp
theorem keyT_join (ls : List Str) : keyT ls = Txt.join NL (ls ++ [("" : Str)]) := TL.ext_tl (by rw [tl_keyT, tl_joinNL])
def free (y : Str) : Prop := 10 ∉ TL.tl y
theorem free_emp : free "" := by unfold free; rw [tl_emp]; simp
theorem nl_small : NL.cps.all (· < 256) = true := by decide +kernel
theorem split_nl {ls : List Str} (h0 : ls ≠ []) (h : ∀ y ∈ ls, free y) : Txt.split (Txt.join NL ls) NL = ls := TL.split_join tl_nl nl_small h0 h
theorem split_keyT {ls : List Str} (h : ∀ y ∈ ls, free y) : Txt.split (keyT ls) NL = ls ++ [("" : Str)] := by
  rw [keyT_join]
  exact split_nl (by simp) fun y m => by
    rcases List.mem_append.mp m with m | m
    · exact h y m
    · rw [List.mem_singleton.mp m]; exact free_emp
theorem free_app {a b : Str} (ha : free a) (hb : free b) : free (a ++ b) := by
  unfold free at *
  rw [TL.tl_append]
  exact fun m => (List.mem_append.mp m).elim ha hb
abbrev ARG : Str := "arg "
abbrev INN : Str := "in "
theorem starts_tk {x y : Str} : Txt.startswith x y = decide ((TL.tl x).take y.length = TL.tl y) := by
  rw [starts_eq, Bool.eq_iff_iff, decide_eq_true_iff, decide_eq_true_iff]
  have e : TL.tl (cutS x none (some (y.length : Int))) = (TL.tl x).take y.length := by
    show (x.cps.toList.drop (HT.sIx x.length 0 none)).take (HT.sIx x.length x.length (some (y.length : Int)) - HT.sIx x.length 0 none) = _
    rw [HT.sIx_none, HT.sIx_nat, List.drop_zero]
    show (TL.tl x).take _ = _
    have lx := TL.len_tl x
    by_cases h : y.length ≤ x.length
    · rw [Nat.min_eq_left h, Nat.sub_zero]
    · rw [List.take_of_length_le (by omega), List.take_of_length_le (by omega)]
  constructor
  · intro h; rw [← e, h]
  · intro h; exact TL.ext_tl (by rw [e, h])
theorem tl_arg : TL.tl ARG = [97, 114, 103, 32] := by decide +kernel
theorem tl_inn : TL.tl INN = [105, 110, 32] := by decide +kernel
theorem len_arg : ARG.length = 4 := by decide +kernel
theorem len_inn : INN.length = 3 := by decide +kernel
theorem st_aa (a : Str) : Txt.startswith (ARG ++ a) ARG = true := by
  rw [starts_tk, TL.tl_append, tl_arg, len_arg]; simp
theorem st_ai (a : Str) : Txt.startswith (ARG ++ a) INN = false := by
  rw [starts_tk, TL.tl_append, tl_arg, len_inn, tl_inn]; simp
theorem st_ii (a : Str) : Txt.startswith (INN ++ a) INN = true := by
  rw [starts_tk, TL.tl_append, tl_inn, len_inn]; simp
theorem st_ia (a : Str) : Txt.startswith (INN ++ a) ARG = false := by
  rw [starts_tk, TL.tl_append, tl_inn, len_arg, tl_arg, decide_eq_false_iff_not]
  intro h
  have := congrArg List.head? h
  simp at this
theorem st_ea : Txt.startswith "" ARG = false := by decide +kernel
theorem st_ei : Txt.startswith "" INN = false := by decide +kernel
theorem aCut_app (L M : List Str) : aCut (L ++ M) = aCut L ++ aCut M := by unfold aCut; rw [List.filter_append, List.map_append]
theorem nCut_app (L M : List Str) : nCut (L ++ M) = nCut L ++ nCut M := by unfold nCut; rw [List.filter_append, List.map_append]
theorem aCut_a : ∀ as : List Str, aCut (as.map (ARG ++ ·)) = as
  | [] => rfl
  | a :: as => by
    have ih := aCut_a as
    unfold aCut at *
    rw [List.map_cons, List.filter_cons, if_pos (st_aa a), List.map_cons, ih]
    show cutS (ARG ++ a) (some ((4 : Nat) : Int)) none :: as = _
    rw [cut_from len_arg.symm]
theorem nCut_n : ∀ zs : List Str, nCut (zs.map (INN ++ ·)) = zs
  | [] => rfl
  | a :: as => by
    have ih := nCut_n as
    unfold nCut at *
    rw [List.map_cons, List.filter_cons, if_pos (st_ii a), List.map_cons, ih]
    show cutS (INN ++ a) (some ((3 : Nat) : Int)) none :: as = _
    rw [cut_from len_inn.symm]
theorem aCut_n : ∀ zs : List Str, aCut (zs.map (INN ++ ·)) = []
  | [] => rfl
  | a :: as => by
    have ih := aCut_n as
    unfold aCut at *
    rw [List.map_cons, List.filter_cons, if_neg (by rw [st_ia]; decide), ih]
theorem nCut_a : ∀ as : List Str, nCut (as.map (ARG ++ ·)) = []
  | [] => rfl
  | a :: as => by
    have ih := nCut_a as
    unfold nCut at *
    rw [List.map_cons, List.filter_cons, if_neg (by rw [st_ai]; decide), ih]
theorem cut_none {y : Str} (h1 : Txt.startswith y ARG = false) (h2 : Txt.startswith y INN = false) : aCut [y] = [] ∧ nCut [y] = [] := by
  constructor
  · unfold aCut; rw [List.filter_cons, if_neg (by rw [h1]; decide)]; rfl
  · unfold nCut; rw [List.filter_cons, if_neg (by rw [h2]; decide)]; rfl
theorem cut_e : aCut [("" : Str)] = [] ∧ nCut [("" : Str)] = [] := cut_none st_ea st_ei
/-! ### what is drawn -/
abbrev A6 : List Str := ["", "a", " a b ", mkS (List.replicate 59 120), mkS (List.replicate 60 120), mkS (List.replicate 61 120)]
abbrev N9 : List Int := [1, 9, 10, 28, 345, 6789, 99999, 100000, 0]
def valS (y : Str) : Int := (PySem.intText? y).getD 0
theorem a6_ok : ∀ a ∈ A6, 10 ∉ TL.tl a ∧ a.length ≤ 61 ∧ shortB a = !decide (a = mkS (List.replicate 61 120)) := by decide +kernel
theorem n9_ok : ∀ n ∈ N9, 10 ∉ TL.tl (numS n) ∧ (numS n).length ≤ 6 ∧ n.natAbs.log2 < 1920 ∧ digB (numS n) = (!decide (n = 100000) && !decide (n = 0)) ∧ (digB (numS n) = true → PySem.intText? (numS n) = some n) := by decide +kernel
theorem n7_ok : 10 ∉ TL.tl ("7" : Str) ∧ digB "7" = true ∧ PySem.intText? "7" = some 7 ∧ numS 7 = "7" := by decide +kernel
def toolB (z : Str) : Bool := decide (10 ∉ TL.tl z) && (decide (1 ≤ z.length) && (decide (z.length ≤ 22) && (!Txt.startswith z ARG && (!Txt.startswith z INN && z.cps.toList.all fun c => decide (c < 0x110000)))))
theorem res_tool : ∀ z ∈ RES, toolB z = true := by decide +kernel
abbrev BASE : Str := "abcdefghij_0123456789z"
theorem base_tool : ∀ L ∈ [1, 2, 19, 20, 21], toolB (mkS ((TL.tl BASE).take L)) = true ∧ (mkS ((TL.tl BASE).take L)).length = L := by decide +kernel
theorem turn_tool : ∀ L ∈ [1, 2, 19, 20, 21], ∀ n < L, ∀ s ∈ [65, 45, 49, 95, 32, 122], toolB (mkS ((TL.tl BASE).take n ++ [s] ++ ((TL.tl BASE).take L).drop (n + 1))) = true := by decide +kernel
end Vi

set_option Elab.async false
set_option linter.all false
set_option autoImplicit false
set_option maxRecDepth 100000
set_option maxHeartbeats 2000000
namespace Vi
open PySem PySem.Spec PyProof.Rows L2
open scoped Classical
local macro_rules | `(tactic| walk_at "x1") => `(tactic| with_reducible first
  | refine x_bin ?_ | refine x_tst ?_ | refine x_oB ?_ | refine x_c ?_ | refine s_seqA ?_ | refine s_seqU ?_ | refine s_seqE ?_ | refine s_seqN ?_ | refine s_asg' ?_ | refine s_if' ?_ | refine s_ret' ?_ | refine s_exp' ?_ | refine s_next ?_ | refine s_retN' ?_ | refine s_sub' ?_
  | refine x_cb ?_ | refine x_cons ?_ | refine x_nil ?_ | refine x_call ?_ | refine x_met ?_ | refine x_un ?_ | refine x_notT ?_ | refine x_andT ?_ | refine x_orT ?_ | refine x_and ?_ | refine x_or ?_ | refine x_not ?_ | refine x_if ?_
  | refine x_tup ?_ | refine x_lst ?_ | refine x_cel ?_ | refine x_sl ?_ | refine x_noP ?_ | refine x_part ?_ | refine x_oI ?_ | refine x_mI ?_ | refine x_rng ?_ | refine x_yes ?_ | refine x_chn ?_ | refine x_fun ?_ | refine x_ok ?_)
local macro_rules | `(tactic| walk_at "x2") => `(tactic| first
  | ((with_reducible refine y_var ?_); refine ⟨_, rfl, ?_⟩)
  | ((with_reducible refine y_some ?_); refine ⟨_, rfl, ?_⟩)
  | ((with_reducible refine y_gP ?_); refine ⟨_, rfl, ?_⟩))
local macro_rules | `(tactic| walk_at "x") => `(tactic| repeat (first | walk_at "x1" | walk_at "x2" ))
local macro_rules | `(tactic| walk_at "nx") => `(tactic| (refine next_k (by assumption) (by assumption) (by first | decide | omega) (by first | decide | omega) ?_))

/-! ### what is told of a key's text -/
abbrev refD : D := .lst [.str "refused", .bl true]
def Tool (z : Str) : Prop := toolB z = true
theorem Tool.ex {z : Str} (h : Tool z) : free z ∧ 1 ≤ z.length ∧ z.length ≤ 22 ∧ Txt.startswith z ARG = false ∧ Txt.startswith z INN = false ∧ ∀ c ∈ TL.tl z, c < 0x110000 := by
  unfold Tool toolB at h
  simp only [Bool.and_eq_true, decide_eq_true_eq, Bool.not_eq_true', List.all_eq_true] at h
  exact ⟨h.1, h.2.1, h.2.2.1, h.2.2.2.1, h.2.2.2.2.1, h.2.2.2.2.2⟩
section
variable {h : Hap} {P : D → Hap → Prop}
theorem told_k {z tool : Str} {R : List Str} (hz : z.length ≤ 100000) (hsp : Txt.split z NL = tool :: R) (hR : R.length ≤ 1000) (hall : ∀ y ∈ tool :: R, y.length ≤ 1000) (ht : ∀ c ∈ TL.tl tool, c < 0x110000)
    (hv : ∀ y ∈ nCut (tool :: R), digB y = true → PySem.intText? y = some (valS y) ∧ smallN (valS y))
    (k1 : wordOk tool = true → argsB (aCut (tool :: R)) = true → namesB (nCut (tool :: R)) = true → keyT (lns tool (aCut (tool :: R)) ((nCut (tool :: R)).map valS)) = z → ∀ t, P (.tup [.str tool, .tup ((aCut (tool :: R)).map .str), .tup (((nCut (tool :: R)).map valS).map .int)]) (h ++ t))
    (k2 : ¬ (wordOk tool = true ∧ argsB (aCut (tool :: R)) = true ∧ namesB (nCut (tool :: R)) = true ∧ keyT (lns tool (aCut (tool :: R)) ((nCut (tool :: R)).map valS)) = z) → ∀ t, P refD (h ++ t)) : Sat (Mi.m_law_told_2 [.str z] h) P := by
  unfold Mi.m_law_told_2 Mi.b_law_told_2
  refine x_fun (X.tryAs (X.seqX (X.set ?_)))
  walk_at "x"
  refine read_key_k hz hsp hR hall ht hv (fun a b c d t => ?_) fun no t => ?_
  · dsimp only
    refine SatSX.of ?_
    walk_at "x"
    refine ⟨fun q => absurd q (by decide +kernel), fun _ => ?_⟩
    walk_at "x"
    exact k1 a b c d t
  · refine ⟨List.mem_singleton.mpr rfl, ?_⟩
    walk_at "x"
    refine ⟨_, rfl, fun _ => ?_, fun q => (nomatch q)⟩
    walk_at "x"
    refine ⟨false, rfl, x_nil ⟨sl_le (by simp), k2 no t⟩⟩
end
theorem inj_keyT {L M : List Str} (hL : ∀ y ∈ L, free y) (hM : ∀ y ∈ M, free y) (e : keyT L = keyT M) : L = M := by
  have h1 := split_keyT hL
  rw [e, split_keyT hM] at h1
  exact (List.append_inj' h1 rfl).1.symm
theorem dig_free : ∀ {z : Str}, digB z = true → free z := fun {z} h m => by
  unfold digB at h
  simp only [Bool.and_eq_true, List.all_eq_true, decide_eq_true_eq] at h
  have h1 := h.2.2.2 10 m
  exact absurd h1 (by decide +kernel)
theorem num_free (n : Int) : free (numS n) := by
  intro m
  have : (10 : Nat) ∈ (Str.ofString (toString n)).cps.toList := m
  exact absurd this (by
    have := int_text_free' 10 ⟨by decide, by decide⟩ n
    simpa using this)
theorem lns_free {tool : Str} {as : List Str} {ns : List Int} (h1 : free tool) (h2 : ∀ a ∈ as, free a) : ∀ y ∈ lns tool as ns, free y := by
  have fa : free ARG := by unfold free; rw [tl_arg]; decide
  have fi : free INN := by unfold free; rw [tl_inn]; decide
  intro y m
  unfold lns at m
  rcases List.mem_cons.mp m with rfl | m
  · exact h1
  rcases List.mem_append.mp m with m | m
  · obtain ⟨a, ma, rfl⟩ := List.mem_map.mp m
    exact free_app fa (h2 a ma)
  · obtain ⟨n, mn, rfl⟩ := List.mem_map.mp m
    exact free_app fi (num_free n)
/-! ### the text of a key, as the law lays it, and as it turns it -/
def bodyL (as : List Str) (ns : List Int) : List Str := as.map (ARG ++ ·) ++ ns.map fun n => INN ++ numS n
theorem lns_body {tool : Str} {as : List Str} {ns : List Int} : lns tool as ns = tool :: bodyL as ns := rfl
theorem map_num (ns : List Int) : (ns.map fun n => INN ++ numS n) = (ns.map numS).map (INN ++ ·) := by rw [List.map_map]; rfl
theorem cuts_body (as : List Str) (ns : List Int) : aCut (bodyL as ns) = as ∧ nCut (bodyL as ns) = ns.map numS := by
  unfold bodyL
  rw [map_num, aCut_app, nCut_app, aCut_a, aCut_n, nCut_a, nCut_n, List.append_nil, List.nil_append]
  exact ⟨rfl, rfl⟩
structure Kx (tool : Str) (as : List Str) (ns : List Int) : Prop where
  t : Tool tool
  a : ∀ a ∈ as, a ∈ A6
  n : ∀ n ∈ ns, n ∈ N9
  la : as.length ≤ 13
  ln : ns.length ≤ 25
theorem Kx.val {tool : Str} {as : List Str} {ns : List Int} (K : Kx tool as ns) : ∀ y ∈ ns.map numS, digB y = true → PySem.intText? y = some (valS y) ∧ smallN (valS y) := fun y m hd => by
  obtain ⟨n, mn, rfl⟩ := List.mem_map.mp m
  obtain ⟨_, h2, h3, _, h5⟩ := n9_ok n (K.n n mn)
  have h5 := h5 hd
  have : valS (numS n) = n := by unfold valS; rw [h5]; rfl
  rw [this]
  exact ⟨h5, h3, by omega⟩
theorem Kx.free {tool : Str} {as : List Str} {ns : List Int} (K : Kx tool as ns) : ∀ y ∈ tool :: bodyL as ns, Vi.free y := lns_free (tool := tool) (ns := ns) K.t.ex.1 fun a m => (a6_ok a (K.a a m)).1
theorem Kx.len {tool : Str} {as : List Str} {ns : List Int} (K : Kx tool as ns) : (∀ y ∈ tool :: bodyL as ns, y.length ≤ 100) ∧ (bodyL as ns).length ≤ 38 := by
  constructor
  · intro y m
    rcases List.mem_cons.mp m with rfl | m
    · have := K.t.ex.2.2.1; omega
    rcases List.mem_append.mp m with m | m
    · obtain ⟨a, ma, rfl⟩ := List.mem_map.mp m
      have := (a6_ok a (K.a a ma)).2.1
      rw [len_app, len_arg]; omega
    · obtain ⟨n, mn, rfl⟩ := List.mem_map.mp m
      have := (n9_ok n (K.n n mn)).2.1
      rw [len_app, len_inn]; omega
  · unfold bodyL
    rw [List.length_append, List.length_map, List.length_map]
    have := K.la
    have := K.ln
    omega
theorem len_keyT {L : List Str} (h : ∀ y ∈ L, y.length ≤ 100) : (keyT L).length ≤ L.length * 101 := by
  rw [TL.len_tl, tl_keyT]
  induction L with
  | nil => exact Nat.zero_le _
  | cons y r ih =>
    have h1 := h y List.mem_cons_self
    have h2 := ih fun z m => h z (List.mem_cons_of_mem _ m)
    rw [TL.len_tl] at h1
    simp only [List.map_cons, List.flatten_cons, List.length_append, List.length_cons, List.length_nil]
    omega
section
variable {h : Hap} {P : D → Hap → Prop}
/-- told of a good key's text, of a bad one's -/
theorem told_key {tool : Str} {as : List Str} {ns : List Int} (K : Kx tool as ns) (k1 : wordOk tool = true → argsB as = true → namesB (ns.map numS) = true → ∀ t, P (.tup [.str tool, .tup (as.map .str), .tup (ns.map .int)]) (h ++ t))
    (k2 : ¬ (wordOk tool = true ∧ argsB as = true ∧ namesB (ns.map numS) = true) → ∀ t, P refD (h ++ t)) : Sat (Mi.m_law_told_2 [.str (keyT (tool :: bodyL as ns))] h) P := by
  obtain ⟨f1, f2, f3, f4, f5, f6⟩ := K.t.ex
  have hl := len_keyT K.len.1
  have hl2 := K.len.2
  have hl3 : (tool :: bodyL as ns).length ≤ 39 := by rw [List.length_cons]; omega
  have eR : tool :: (bodyL as ns ++ [("" : Str)]) = [tool] ++ bodyL as ns ++ [("" : Str)] := rfl
  have cA : aCut (tool :: (bodyL as ns ++ [("" : Str)])) = as := by
    rw [eR, aCut_app, aCut_app, (cuts_body as ns).1, (cut_none f4 f5).1, cut_e.1, List.append_nil, List.nil_append]
  have cN : nCut (tool :: (bodyL as ns ++ [("" : Str)])) = ns.map numS := by
    rw [eR, nCut_app, nCut_app, (cuts_body as ns).2, (cut_none f4 f5).2, cut_e.2, List.append_nil, List.nil_append]
  refine told_k (tool := tool) (R := bodyL as ns ++ [("" : Str)]) ?_ (split_keyT K.free) (by rw [List.length_append]; show _ + 1 ≤ _; omega) (fun y m => ?_) f6 ?_ ?_ ?_
  · have : (tool :: bodyL as ns).length * 101 ≤ 39 * 101 := Nat.mul_le_mul_right _ hl3
    omega
  · rcases List.mem_append.mp (show y ∈ (tool :: bodyL as ns) ++ [("" : Str)] from m) with m | m
    · have := K.len.1 y m; omega
    · rw [List.mem_singleton.mp m]; decide
  · rw [cN]; exact K.val
  all_goals rw [cA, cN]
  · intro a b c e t
    have ev : (ns.map numS).map valS = ns := by
      have c2 := c
      unfold namesB at c2
      rw [Bool.and_eq_true, List.all_eq_true] at c2
      rw [List.map_map]
      conv => rhs; rw [← List.map_id ns]
      refine List.map_congr_left fun n m => ?_
      have := (n9_ok n (K.n n m)).2.2.2.2 (c2.2 _ (List.mem_map.mpr ⟨n, m, rfl⟩))
      show (PySem.intText? (numS n)).getD 0 = n
      rw [this]
      rfl
    rw [ev]
    exact k1 a b c t
  · intro no t
    refine k2 (fun q => no ⟨q.1, q.2.1, q.2.2, ?_⟩) t
    have ev : (ns.map numS).map valS = ns := by
      have c2 := q.2.2
      unfold namesB at c2
      rw [Bool.and_eq_true, List.all_eq_true] at c2
      rw [List.map_map]
      conv => rhs; rw [← List.map_id ns]
      refine List.map_congr_left fun n m => ?_
      have := (n9_ok n (K.n n m)).2.2.2.2 (c2.2 _ (List.mem_map.mpr ⟨n, m, rfl⟩))
      show (PySem.intText? (numS n)).getD 0 = n
      rw [this]
      rfl
    rw [ev]
    rfl
end
end Vi

set_option Elab.async false
set_option linter.all false
set_option autoImplicit false
set_option maxRecDepth 100000
set_option maxHeartbeats 2000000
namespace Vi
open PySem PySem.Spec PyProof.Rows L2
open scoped Classical
local macro_rules | `(tactic| walk_at "x1") => `(tactic| with_reducible first
  | refine x_bin ?_ | refine x_tst ?_ | refine x_oB ?_ | refine x_c ?_ | refine s_seqA ?_ | refine s_seqU ?_ | refine s_seqE ?_ | refine s_seqN ?_ | refine s_asg' ?_ | refine s_if' ?_ | refine s_ret' ?_ | refine s_exp' ?_ | refine s_next ?_ | refine s_retN' ?_ | refine s_sub' ?_
  | refine x_cb ?_ | refine x_cons ?_ | refine x_nil ?_ | refine x_call ?_ | refine x_met ?_ | refine x_un ?_ | refine x_notT ?_ | refine x_andT ?_ | refine x_orT ?_ | refine x_and ?_ | refine x_or ?_ | refine x_not ?_ | refine x_if ?_
  | refine x_tup ?_ | refine x_lst ?_ | refine x_cel ?_ | refine x_sl ?_ | refine x_noP ?_ | refine x_part ?_ | refine x_oI ?_ | refine x_mI ?_ | refine x_rng ?_ | refine x_yes ?_ | refine x_chn ?_ | refine x_fun ?_ | refine x_ok ?_)
local macro_rules | `(tactic| walk_at "x2") => `(tactic| first
  | ((with_reducible refine y_var ?_); refine ⟨_, rfl, ?_⟩)
  | ((with_reducible refine y_some ?_); refine ⟨_, rfl, ?_⟩)
  | ((with_reducible refine y_gP ?_); refine ⟨_, rfl, ?_⟩))
local macro_rules | `(tactic| walk_at "x") => `(tactic| repeat (first | walk_at "x1" | walk_at "x2" ))
local macro_rules | `(tactic| walk_at "nx") => `(tactic| (refine next_k (by assumption) (by assumption) (by first | decide | omega) (by first | decide | omega) ?_))

/-! ### lines of no key -/
def Bad (z : Str) : Prop := ∀ (h : Hap) (P : D → Hap → Prop), (∀ t, P refD (h ++ t)) → Sat (Mi.m_law_told_2 [.str z] h) P
theorem app_assoc (a b c : Str) : a ++ b ++ c = a ++ (b ++ c) := TL.ext_tl (by rw [TL.tl_append, TL.tl_append, TL.tl_append, TL.tl_append, List.append_assoc])
theorem arg_inn {a b : Str} : ARG ++ a ≠ INN ++ b := fun e => by
  have h1 := st_aa a
  rw [e, st_ia] at h1
  cases h1
theorem e_in7 : ("in 7" : Str) = INN ++ "7" := by decide +kernel
theorem e_arga : ("arg a" : Str) = ARG ++ "a" := by decide +kernel
theorem e_in0 : ("in 0" : Str) = INN ++ "0" := by decide +kernel
section
variable {tool : Str} {as : List Str} {ns : List Int}
theorem bad1 (K : Kx tool as ns) : Bad (keyT (tool :: ((ns.map fun n => INN ++ numS n) ++ [("in 7" : Str), "arg a"] ++ as.map (ARG ++ ·)))) := by
  intro h P k
  obtain ⟨f1, f2, f3, f4, f5, f6⟩ := K.t.ex
  have eB : (ns.map fun n => INN ++ numS n) ++ [("in 7" : Str), "arg a"] ++ as.map (ARG ++ ·) = (ns.map numS ++ [("7" : Str)]).map (INN ++ ·) ++ (("a" : Str) :: as).map (ARG ++ ·) := by
    rw [e_in7, e_arga, map_num]
    simp
  rw [eB]
  have hA : ∀ a ∈ (("a" : Str) :: as), free a ∧ a.length ≤ 61 := fun a m => by
    rcases List.mem_cons.mp m with rfl | m
    · exact ⟨(a6_ok "a" (by simp)).1, by decide⟩
    · have := a6_ok a (K.a a m); exact ⟨this.1, this.2.1⟩
  have hN : ∀ z ∈ (ns.map numS ++ [("7" : Str)]), free z ∧ z.length ≤ 6 := fun z m => by
    rcases List.mem_append.mp m with m | m
    · obtain ⟨n, mn, rfl⟩ := List.mem_map.mp m
      have := n9_ok n (K.n n mn); exact ⟨this.1, this.2.1⟩
    · rw [List.mem_singleton.mp m]; exact ⟨n7_ok.1, by decide⟩
  have lA : (("a" : Str) :: as).length ≤ 14 := by rw [List.length_cons]; have := K.la; omega
  have lN : (ns.map numS ++ [("7" : Str)]).length ≤ 26 := by rw [List.length_append, List.length_map]; have := K.ln; show _ + 1 ≤ _; omega
  have hv7 : ∀ y ∈ (ns.map numS ++ [("7" : Str)]), digB y = true → PySem.intText? y = some (valS y) ∧ smallN (valS y) := fun y m hd => by
    rcases List.mem_append.mp m with m | m
    · exact K.val y m hd
    · rw [List.mem_singleton.mp m]
      have e7 : valS "7" = 7 := by unfold valS; rw [n7_ok.2.2.1]; rfl
      rw [e7]
      exact ⟨n7_ok.2.2.1, by decide +kernel, by rw [n7_ok.2.2.2]; decide⟩
  have hne : ∃ w q, (ns.map numS ++ [("7" : Str)]) = w :: q := by
    cases ns with
    | nil => exact ⟨_, _, rfl⟩
    | cons n ns => exact ⟨_, _, rfl⟩
  generalize ns.map numS ++ [("7" : Str)] = N at *
  generalize hAA : ("a" : Str) :: as = A at *
  have fa : free ARG := by unfold free; rw [tl_arg]; decide
  have fi : free INN := by unfold free; rw [tl_inn]; decide
  have hfree : ∀ y ∈ tool :: (N.map (INN ++ ·) ++ A.map (ARG ++ ·)), free y := fun y m => by
    rcases List.mem_cons.mp m with rfl | m
    · exact f1
    rcases List.mem_append.mp m with m | m
    · obtain ⟨a, ma, rfl⟩ := List.mem_map.mp m; exact free_app fi (hN a ma).1
    · obtain ⟨a, ma, rfl⟩ := List.mem_map.mp m; exact free_app fa (hA a ma).1
  have hlen : ∀ y ∈ tool :: (N.map (INN ++ ·) ++ A.map (ARG ++ ·)), y.length ≤ 100 := fun y m => by
    rcases List.mem_cons.mp m with rfl | m
    · omega
    rcases List.mem_append.mp m with m | m
    · obtain ⟨a, ma, rfl⟩ := List.mem_map.mp m; have := (hN a ma).2; rw [len_app, len_inn]; omega
    · obtain ⟨a, ma, rfl⟩ := List.mem_map.mp m; have := (hA a ma).2; rw [len_app, len_arg]; omega
  have hl := len_keyT hlen
  have hl2 : (tool :: (N.map (INN ++ ·) ++ A.map (ARG ++ ·))).length ≤ 41 := by rw [List.length_cons, List.length_append, List.length_map, List.length_map]; omega
  have eR : tool :: (N.map (INN ++ ·) ++ A.map (ARG ++ ·) ++ [("" : Str)]) = [tool] ++ (N.map (INN ++ ·) ++ A.map (ARG ++ ·)) ++ [("" : Str)] := rfl
  have cA : aCut (tool :: (N.map (INN ++ ·) ++ A.map (ARG ++ ·) ++ [("" : Str)])) = A := by
    rw [eR, aCut_app, aCut_app, aCut_app, aCut_a, aCut_n, (cut_none f4 f5).1, cut_e.1, List.append_nil, List.nil_append, List.nil_append]
  have cN : nCut (tool :: (N.map (INN ++ ·) ++ A.map (ARG ++ ·) ++ [("" : Str)])) = N := by
    rw [eR, nCut_app, nCut_app, nCut_app, nCut_a, nCut_n, (cut_none f4 f5).2, cut_e.2, List.append_nil, List.nil_append, List.append_nil]
  refine told_k (tool := tool) (R := N.map (INN ++ ·) ++ A.map (ARG ++ ·) ++ [("" : Str)]) ?_ (split_keyT hfree) (by rw [List.length_append]; rw [List.length_cons] at hl2; show _ + 1 ≤ _; omega) (fun y m => ?_) f6 ?_ ?_ ?_
  · have : (tool :: (N.map (INN ++ ·) ++ A.map (ARG ++ ·))).length * 101 ≤ 41 * 101 := Nat.mul_le_mul_right _ hl2
    omega
  · rcases List.mem_append.mp (show y ∈ (tool :: (N.map (INN ++ ·) ++ A.map (ARG ++ ·))) ++ [("" : Str)] from m) with m | m
    · have := hlen y m; omega
    · rw [List.mem_singleton.mp m]; decide
  · rw [cN]; exact hv7
  all_goals rw [cA, cN]
  · intro _ _ _ e t
    exfalso
    have e2 := inj_keyT (lns_free f1 fun a m => (hA a m).1) hfree e
    obtain ⟨w, q, ew⟩ := hne
    rw [ew, ← hAA] at e2
    have e3 := (List.cons.inj e2).2
    have e4 : ARG ++ ("a" : Str) = INN ++ w := (List.cons.inj e3).1
    exact arg_inn e4
  · intro _ t
    exact k t
theorem bad2 (K : Kx tool as ns) {s : Str} (hs : free s) (hsl : s.length ≤ 10) : Bad (keyT (tool :: (bodyL as ns ++ [("in 0" : Str) ++ s]))) := by
  intro h P k
  obtain ⟨f1, f2, f3, f4, f5, f6⟩ := K.t.ex
  have e0 : ("in 0" : Str) ++ s = INN ++ (("0" : Str) ++ s) := by rw [e_in0, app_assoc]
  rw [e0]
  have tl0 : TL.tl ("0" : Str) = [48] := by decide +kernel
  have l0 : Str.length "0" = 1 := by decide
  have f0 : free (("0" : Str) ++ s) := free_app (by unfold free; rw [tl0]; decide) hs
  have hd : digB (("0" : Str) ++ s) = false := by
    have : (("0" : Str) ++ s).cps.toList = 48 :: TL.tl s := by
      have : TL.tl (("0" : Str) ++ s) = _ := TL.tl_append _ _
      rw [tl0] at this
      exact this
    unfold digB
    rw [this]
    simp
  have l00 : (("0" : Str) ++ s).length ≤ 11 := by rw [len_app, l0]; omega
  generalize ("0" : Str) ++ s = s0 at *
  have fi : free INN := by unfold free; rw [tl_inn]; decide
  have hfree : ∀ y ∈ tool :: (bodyL as ns ++ [INN ++ s0]), free y := fun y m => by
    rcases List.mem_append.mp (show y ∈ (tool :: bodyL as ns) ++ [INN ++ s0] from m) with m | m
    · exact K.free y m
    · rw [List.mem_singleton.mp m]; exact free_app fi f0
  have hlen : ∀ y ∈ tool :: (bodyL as ns ++ [INN ++ s0]), y.length ≤ 100 := fun y m => by
    rcases List.mem_append.mp (show y ∈ (tool :: bodyL as ns) ++ [INN ++ s0] from m) with m | m
    · exact K.len.1 y m
    · rw [List.mem_singleton.mp m, len_app, len_inn]; omega
  have hl := len_keyT hlen
  have hl1 := K.len.2
  have hl2 : (tool :: (bodyL as ns ++ [INN ++ s0])).length ≤ 41 := by rw [List.length_cons, List.length_append]; show _ + 1 + 1 ≤ _; omega
  have eR : tool :: (bodyL as ns ++ [INN ++ s0] ++ [("" : Str)]) = [tool] ++ (bodyL as ns ++ [s0].map (INN ++ ·)) ++ [("" : Str)] := rfl
  have cN : nCut (tool :: (bodyL as ns ++ [INN ++ s0] ++ [("" : Str)])) = ns.map numS ++ [s0] := by
    rw [eR, nCut_app, nCut_app, nCut_app, nCut_n, (cuts_body as ns).2, (cut_none f4 f5).2, cut_e.2, List.append_nil, List.nil_append]
  have hno : namesB (ns.map numS ++ [s0]) = false := by
    unfold namesB
    rw [List.all_append]
    simp [hd]
  refine told_k (tool := tool) (R := bodyL as ns ++ [INN ++ s0] ++ [("" : Str)]) ?_ (split_keyT hfree) (by rw [List.length_append]; rw [List.length_cons] at hl2; show _ + 1 ≤ _; omega) (fun y m => ?_) f6 ?_ ?_ ?_
  · have : (tool :: (bodyL as ns ++ [INN ++ s0])).length * 101 ≤ 41 * 101 := Nat.mul_le_mul_right _ hl2
    omega
  · rcases List.mem_append.mp (show y ∈ (tool :: (bodyL as ns ++ [INN ++ s0])) ++ [("" : Str)] from m) with m | m
    · have := hlen y m; omega
    · rw [List.mem_singleton.mp m]; decide
  · rw [cN]
    intro y m hy
    rcases List.mem_append.mp m with m | m
    · exact K.val y m hy
    · rw [List.mem_singleton.mp m, hd] at hy; cases hy
  all_goals rw [cN]
  · intro _ _ e _ t
    rw [hno] at e
    cases e
  · intro _ t
    exact k t
theorem keyT_nl : ∀ L : List Str, L ≠ [] → keyT L = Txt.join NL L ++ NL := fun L hL => TL.ext_tl (by
  rw [tl_keyT, TL.tl_append, TL.join_eq, TL.tl_join, tl_nl]
  induction L with
  | nil => exact absurd rfl hL
  | cons y r ih =>
    cases r with
    | nil => show _ = TL.tl y ++ [10]; simp
    | cons z r =>
      have ih := ih (by simp)
      show _ = TL.tl y ++ ([10] ++ TL.joinL [10] ((z :: r).map TL.tl)) ++ [10]
      rw [List.map_cons, List.flatten_cons, ih]
      simp)
theorem bad3 (K : Kx tool as ns) : Bad (Txt.join NL (tool :: bodyL as ns)) := by
  intro h P k
  obtain ⟨f1, f2, f3, f4, f5, f6⟩ := K.t.ex
  have hl := len_keyT K.len.1
  have hl1 := K.len.2
  have hl2 : (tool :: bodyL as ns).length ≤ 41 := by rw [List.length_cons]; omega
  have hkl : (Txt.join NL (tool :: bodyL as ns)).length ≤ 100000 := by
    rw [keyT_nl _ (by simp), len_app] at hl
    have : (tool :: bodyL as ns).length * 101 ≤ 41 * 101 := Nat.mul_le_mul_right _ hl2
    omega
  have cA : aCut (tool :: bodyL as ns) = as := by
    rw [show tool :: bodyL as ns = [tool] ++ bodyL as ns from rfl, aCut_app, (cuts_body as ns).1, (cut_none f4 f5).1, List.nil_append]
  have cN : nCut (tool :: bodyL as ns) = ns.map numS := by
    rw [show tool :: bodyL as ns = [tool] ++ bodyL as ns from rfl, nCut_app, (cuts_body as ns).2, (cut_none f4 f5).2, List.nil_append]
  refine told_k (tool := tool) (R := bodyL as ns) hkl (split_nl (by simp) K.free) (by omega) (fun y m => by have := K.len.1 y m; omega) f6 (by rw [cN]; exact K.val) ?_ ?_
  all_goals rw [cA, cN]
  · intro _ _ _ e t
    exfalso
    have h1 := split_keyT (ls := lns tool as ((ns.map numS).map valS)) (lns_free f1 fun a m => (a6_ok a (K.a a m)).1)
    rw [e, split_nl (by simp) K.free] at h1
    have me : ("" : Str) ∈ tool :: bodyL as ns := by rw [h1]; simp
    have l0 : Str.length "" = 0 := by decide
    rcases List.mem_cons.mp me with e1 | m
    · rw [← e1, l0] at f2; omega
    rcases List.mem_append.mp m with m | m
    · obtain ⟨a, ma, e1⟩ := List.mem_map.mp m
      have := congrArg Str.length e1
      rw [l0] at this
      rw [show (ARG ++ a).length = _ from len_app _ _, len_arg] at this
      omega
    · obtain ⟨a, ma, e1⟩ := List.mem_map.mp m
      have := congrArg Str.length e1
      rw [l0, len_app, len_inn] at this
      omega
  · intro _ t
    exact k t
end
end Vi

set_option Elab.async false
set_option linter.all false
set_option autoImplicit false
set_option maxRecDepth 100000
set_option maxHeartbeats 2000000
namespace Vi
open PySem PySem.Spec PyProof.Rows L2
open scoped Classical
local macro_rules | `(tactic| walk_at "x1") => `(tactic| with_reducible first
  | refine x_bin ?_ | refine x_tst ?_ | refine x_oB ?_ | refine x_c ?_ | refine s_seqA ?_ | refine s_seqU ?_ | refine s_seqE ?_ | refine s_seqN ?_ | refine s_asg' ?_ | refine s_if' ?_ | refine s_ret' ?_ | refine s_exp' ?_ | refine s_next ?_ | refine s_retN' ?_ | refine s_sub' ?_
  | refine x_cb ?_ | refine x_cons ?_ | refine x_nil ?_ | refine x_call ?_ | refine x_met ?_ | refine x_un ?_ | refine x_notT ?_ | refine x_andT ?_ | refine x_orT ?_ | refine x_and ?_ | refine x_or ?_ | refine x_not ?_ | refine x_if ?_
  | refine x_tup ?_ | refine x_lst ?_ | refine x_cel ?_ | refine x_sl ?_ | refine x_noP ?_ | refine x_part ?_ | refine x_oI ?_ | refine x_mI ?_ | refine x_rng ?_ | refine x_yes ?_ | refine x_chn ?_ | refine x_fun ?_ | refine x_ok ?_)
local macro_rules | `(tactic| walk_at "x2") => `(tactic| first
  | ((with_reducible refine y_var ?_); refine ⟨_, rfl, ?_⟩)
  | ((with_reducible refine y_some ?_); refine ⟨_, rfl, ?_⟩)
  | ((with_reducible refine y_gP ?_); refine ⟨_, rfl, ?_⟩))
local macro_rules | `(tactic| walk_at "x") => `(tactic| repeat (first | walk_at "x1" | walk_at "x2" ))
local macro_rules | `(tactic| walk_at "nx") => `(tactic| (refine next_k (by assumption) (by assumption) (by first | decide | omega) (by first | decide | omega) ?_))

/-! ### the law's own drawing of keys -/
section
variable {t h : Hap} {ns0 : List Int} {P : D → Hap → Prop}
theorem law_is_word_k {z : Str} (hl : z.length ≤ 1000000) (h1 : 1 ≤ z.length) (k : P (.bl (wordOk z)) h) : Sat (Mi.m_law_is_word [.str z] h) P := by
  have lz := TL.len_tl z
  obtain ⟨c, r, ez⟩ : ∃ c r, TL.tl z = c :: r := by
    cases q : TL.tl z with
    | nil => rw [q] at lz; simp at lz; omega
    | cons c r => exact ⟨c, r, rfl⟩
  have ez2 : z.cps.toList = c :: r := ez
  rw [ez, List.length_cons] at lz
  have h0 : atI z.cps.toList 0 = some c := by rw [ez2]; simp [atI, ixN]
  have ew : wordOk z = (sch c && r.all wch && decide (r.length < 20)) := by unfold wordOk; rw [ez]
  unfold Mi.m_law_is_word Mi.b_law_is_word
  refine x_fun ?_
  walk_at "x"
  refine s_seq ?_
  walk_at "x"
  refine v_lens (sl_le (by omega)) ?_
  walk_at "x"
  refine ⟨fun e => ?_, fun e => ?_⟩
  · have e : (20 : Int) < z.length := of_decide_eq_true e
    refine ⟨fun _ => ?_, fun q => (nomatch q)⟩
    walk_at "x"
    rw [ew, decide_eq_false (show ¬ r.length < 20 by omega), Bool.and_false] at k
    exact k
  have e : ¬ (20 : Int) < z.length := of_decide_eq_false e
  rw [ew, decide_eq_true (show r.length < 20 by omega), Bool.and_true] at k
  walk_at "x"
  refine v_ixS (sl_le (by omega)) h0 ?_
  walk_at "x"
  refine ⟨fun e => ?_, fun e => ?_⟩
  · have e : (!sch c) = true := e
    have e : sch c = false := by simpa using e
    walk_at "x"
    rw [e, Bool.false_and] at k
    exact k
  have e : (!sch c) = false := e
  have e : sch c = true := by simpa using e
  rw [e, Bool.true_and] at k
  walk_at "x"
  have eW : (WST ++ ("0123456789_" : Str)) = WSI := by decide +kernel
  have hw : WST.length + Str.length "0123456789_" ≤ sizeLine := sl_le (show Str.length "abcdefghijklmnopqrstuvwxyz" + Str.length "0123456789_" ≤ 16777216 by decide)
  refine x_compFM (z.cps.toList.map fun c => .str (ch c)) (fun d => match d with
    | .str s => !wch (s.cps.getD 0 0)
    | _ => false) (fun _ => .int 1) (by rw [List.length_map, len_list]; exact sl_le (by omega)) (x_signs (x_var rfl ⟨rfl, rfl⟩)) (fun x m => ?_) ?_
  · obtain ⟨d, _, rfl⟩ := List.mem_map.mp m
    refine ⟨_, rfl, ?_⟩
    refine x_tst (x_bin (x_var rfl (x_bin (x_var rfl (x_c (v_adds hw ?_))))))
    rw [eW]
    refine x_some (d := .bl (!wch d)) rfl (x_oB ⟨rfl, rfl, fun _ => ?_⟩)
    exact x_c ⟨rfl, rfl⟩
  · have hlen : ∀ l : List Nat, (((l.map fun c => D.str (ch c)).filter fun d => match d with
      | .str s => !wch (s.cps.getD 0 0)
      | _ => false).map (fun _ => D.int 1)).length = (l.filter fun c => !wch c).length := by
      intro l
      rw [List.length_map, List.filter_map, List.length_map]
      rfl
    have hz : decide (((z.cps.toList.filter fun c => !wch c).length : Int) = 0) = r.all wch := by
      rw [ez2, List.filter_cons, if_neg (by rw [sch_wch e]; decide), Bool.eq_iff_iff, decide_eq_true_iff, List.all_eq_true]
      constructor
      · intro h0 d m
        cases q : wch d with
        | true => rfl
        | false =>
          have : d ∈ r.filter fun c => !wch c := List.mem_filter.mpr ⟨m, by rw [q]; rfl⟩
          rw [List.length_eq_zero_iff.mp (show (r.filter fun c => !wch c).length = 0 by omega)] at this
          cases this
      · intro h0
        rw [List.filter_eq_nil_iff.mpr fun d m => by rw [h0 d m]; decide]
        rfl
    refine x_nil (x_some (d := .int (((z.cps.toList.map fun c => D.str (ch c)).filter fun d => match d with
      | .str s => !wch (s.cps.getD 0 0)
      | _ => false).map (fun _ => D.int 1)).length) rfl ?_)
    rw [hlen]
    refine x_c (x_some (d := .bl (r.all wch)) ?_ k)
    rw [← hz]
    rfl
theorem law_drawn_tool_k (hs : St t h) (hn : ns0.length ≤ 63) (k : ∀ z h', Tool z → St t h' → P (.str z) h') : Sat (Mi.m_law_drawn_tool [.ref 0, scr ns0] h) P := by
  unfold Mi.m_law_drawn_tool Mi.b_law_drawn_tool
  walk_at "x"
  walk_at "nx"
  intro r0 h0 a0 b0 s0
  walk_at "x"
  refine s_seq ?_
  walk_at "x"
  refine ⟨fun _ => ?_, fun _ => ?_⟩
  · walk_at "x"
    refine reserved_k ?_
    walk_at "x"
    walk_at "nx"
    intro r1 h1 a1 b1 s1
    obtain ⟨d, e1, m, _⟩ := atI_ok (xs := RES.map D.str) a1 b1
    obtain ⟨y, ym, rfl⟩ := List.mem_map.mp m
    refine x_some (d := .str y) e1 ?_
    exact k y _ (res_tool y ym) s1
  walk_at "x"
  refine ⟨sl_le (by simp), ?_⟩
  walk_at "x"
  walk_at "nx"
  intro r1 h1 a1 b1 s1
  obtain ⟨d, e1, m, _⟩ := atI_ok (xs := [D.int 1, .int 2, .int 19, .int 20, .int 21]) a1 b1
  obtain ⟨L, rfl, hL⟩ : ∃ L : Nat, d = .int L ∧ L ∈ [1, 2, 19, 20, 21] := by
    simp only [List.mem_cons, List.not_mem_nil, or_false] at m
    rcases m with rfl | rfl | rfl | rfl | rfl
    · exact ⟨1, rfl, by simp⟩
    · exact ⟨2, rfl, by simp⟩
    · exact ⟨19, rfl, by simp⟩
    · exact ⟨20, rfl, by simp⟩
    · exact ⟨21, rfl, by simp⟩
  refine x_some (d := .int L) e1 ?_
  have lB : BASE.length = 22 := by decide +kernel
  have hL2 : L ≤ 21 := by
    simp only [List.mem_cons, List.not_mem_nil, or_false] at hL
    omega
  walk_at "x"
  have tcut : ∀ (z : Str) (n : Nat), n ≤ z.length → cutS z none (some (n : Int)) = mkS ((TL.tl z).take n) := fun z n hn => TL.ext_tl (by
    rw [tl_mkS]
    show (z.cps.toList.drop (HT.sIx z.length 0 none)).take (HT.sIx z.length z.length (some (n : Int)) - HT.sIx z.length 0 none) = _
    rw [HT.sIx_none, HT.sIx_nat, List.drop_zero, Nat.min_eq_left hn, Nat.sub_zero])
  have dcut : ∀ (z : Str) (n : Nat), cutS z (some (n : Int)) none = mkS ((TL.tl z).drop n) := fun z n => TL.ext_tl (by
    rw [tl_mkS]
    have lz := TL.len_tl z
    show ((TL.tl z).drop (HT.sIx z.length 0 (some (n : Int)))).take (HT.sIx z.length z.length none - HT.sIx z.length 0 (some (n : Int))) = _
    rw [HT.sIx_none, HT.sIx_nat]
    by_cases hn : n ≤ z.length
    · rw [Nat.min_eq_left hn, List.take_of_length_le (by rw [List.length_drop]; omega)]
    · rw [Nat.min_eq_right (by omega), List.drop_eq_nil_of_le (by omega), List.drop_eq_nil_of_le (by omega), List.take_nil])
  rw [tcut BASE L (by rw [lB]; omega)]
  obtain ⟨bt, bl⟩ := base_tool L hL
  have tt := turn_tool L hL
  have hW : TL.tl (mkS ((TL.tl BASE).take L)) = (TL.tl BASE).take L := tl_mkS _
  have hle : (TL.tl BASE).length = 22 := by rw [← TL.len_tl]; exact lB
  generalize hWW : mkS ((TL.tl BASE).take L) = W at *
  refine s_cut (fun e h => ∃ (z : Str) (x4 : Option D), Tool z ∧ e = [some (.ref 0), some (scr ns0), some (.int r0), some (.str z), x4] ∧ St t h) ?_ ?_
  · walk_at "x"
    refine ⟨fun _ => ?_, fun _ => ?_⟩
    · walk_at "x"
      refine v_lens (x := W) (sl_le (by omega)) ?_
      have hm1 : (0 : Int) < (W.length : Int) := by
        simp only [List.mem_cons, List.not_mem_nil, or_false] at hL
        omega
      refine x_nil (next_k s1 hn hm1 (by omega) ?_)
      intro r2 h2 a2 b2 s2
      obtain ⟨n, rfl⟩ : ∃ n : Nat, r2 = (n : Int) := ⟨r2.toNat, by omega⟩
      walk_at "x"
      refine v_slS (z := W) (sl_le (by omega)) ?_
      rw [tcut W n (by omega)]
      walk_at "x"
      refine ⟨sl_le (by simp), ?_⟩
      walk_at "x"
      walk_at "nx"
      intro r3 h3 a3 b3 s3
      obtain ⟨d, e3, m3, _⟩ := atI_ok (xs := [D.str "A", .str "-", .str "1", .str "_", .str " ", .str "z"]) a3 b3
      obtain ⟨s, rfl, hs6⟩ : ∃ s : Nat, d = .str (mkS [s]) ∧ s ∈ [65, 45, 49, 95, 32, 122] := by
        have y1 : ("A" : Str) = mkS [65] := by decide +kernel
        have y2 : ("-" : Str) = mkS [45] := by decide +kernel
        have y3 : ("1" : Str) = mkS [49] := by decide +kernel
        have y4 : ("_" : Str) = mkS [95] := by decide +kernel
        have y5 : (" " : Str) = mkS [32] := by decide +kernel
        have y6 : ("z" : Str) = mkS [122] := by decide +kernel
        simp only [List.mem_cons, List.not_mem_nil, or_false] at m3
        rcases m3 with rfl | rfl | rfl | rfl | rfl | rfl
        · exact ⟨_, by rw [y1], by simp⟩
        · exact ⟨_, by rw [y2], by simp⟩
        · exact ⟨_, by rw [y3], by simp⟩
        · exact ⟨_, by rw [y4], by simp⟩
        · exact ⟨_, by rw [y5], by simp⟩
        · exact ⟨_, by rw [y6], by simp⟩
      refine x_some (d := .str (mkS [s])) e3 ?_
      have l1 : (mkS ((TL.tl W).take n)).length ≤ 22 := by rw [len_mkS, List.length_take, hW, List.length_take]; omega
      refine v_adds (x := mkS ((TL.tl W).take n)) (y := mkS [s]) (sl_le (by rw [len_mkS [s]]; show _ + 1 ≤ _; omega)) ?_
      rw [mkS_app]
      walk_at "x"
      have e5 : ((n : Int) + 1) = ((n + 1 : Nat) : Int) := by omega
      rw [e5]
      refine v_slS (z := W) (sl_le (by omega)) ?_
      rw [dcut W (n + 1)]
      have l2 : (mkS ((TL.tl W).take n ++ [s])).length ≤ 23 := by rw [len_mkS, List.length_append]; rw [len_mkS] at l1; show _ + 1 ≤ _; omega
      have l3 : (mkS ((TL.tl W).drop (n + 1))).length ≤ 22 := by rw [len_mkS, List.length_drop, hW, List.length_take]; omega
      refine v_adds (x := mkS ((TL.tl W).take n ++ [s])) (y := mkS ((TL.tl W).drop (n + 1))) (sl_le (by omega)) ?_
      rw [mkS_app]
      have hn2 : n < L := by omega
      have t3 := tt n hn2 s hs6
      have e6 : (TL.tl W).take n = (TL.tl BASE).take n := by rw [hW, List.take_take, Nat.min_eq_left (by omega)]
      rw [e6, hW]
      exact ⟨_, _, t3, rfl, s3⟩
    · walk_at "x"
      exact ⟨W, _, bt, rfl, s1⟩
  rintro e h2 ⟨z, x4, hz, rfl, s2⟩
  walk_at "x"
  exact k z _ hz s2
end
end Vi

set_option Elab.async false
set_option linter.all false
set_option autoImplicit false
set_option maxRecDepth 100000
set_option maxHeartbeats 2000000
namespace Vi
open PySem PySem.Spec PyProof.Rows L2
open scoped Classical
local macro_rules | `(tactic| walk_at "x1") => `(tactic| with_reducible first
  | refine x_bin ?_ | refine x_tst ?_ | refine x_oB ?_ | refine x_c ?_ | refine s_seqA ?_ | refine s_seqU ?_ | refine s_seqE ?_ | refine s_seqN ?_ | refine s_asg' ?_ | refine s_if' ?_ | refine s_ret' ?_ | refine s_exp' ?_ | refine s_next ?_ | refine s_retN' ?_ | refine s_sub' ?_
  | refine x_cb ?_ | refine x_cons ?_ | refine x_nil ?_ | refine x_call ?_ | refine x_met ?_ | refine x_un ?_ | refine x_notT ?_ | refine x_andT ?_ | refine x_orT ?_ | refine x_and ?_ | refine x_or ?_ | refine x_not ?_ | refine x_if ?_
  | refine x_tup ?_ | refine x_lst ?_ | refine x_cel ?_ | refine x_sl ?_ | refine x_noP ?_ | refine x_part ?_ | refine x_oI ?_ | refine x_mI ?_ | refine x_rng ?_ | refine x_yes ?_ | refine x_chn ?_ | refine x_fun ?_ | refine x_ok ?_)
local macro_rules | `(tactic| walk_at "x2") => `(tactic| first
  | ((with_reducible refine y_var ?_); refine ⟨_, rfl, ?_⟩)
  | ((with_reducible refine y_some ?_); refine ⟨_, rfl, ?_⟩)
  | ((with_reducible refine y_gP ?_); refine ⟨_, rfl, ?_⟩))
local macro_rules | `(tactic| walk_at "x") => `(tactic| repeat (first | walk_at "x1" | walk_at "x2" ))
local macro_rules | `(tactic| walk_at "nx") => `(tactic| (refine next_k (by assumption) (by assumption) (by first | decide | omega) (by first | decide | omega) ?_))

/-! ### the law of keys -/
theorem St.more {t h u : Hap} (s : St t h) : St (t ++ u) (h ++ u) := by
  obtain ⟨a, b, c, rfl, q⟩ := s
  exact ⟨a, b, c, rfl, q⟩
def strF (f : Str → Str) : D → D
  | .str y => .str (f y)
  | d => d
theorem map_strF (f : Str → Str) (L : List Str) : (L.map D.str).map (strF f) = (L.map f).map D.str := by
  rw [List.map_map, List.map_map]
  rfl
theorem rep_x (n : Nat) : (⟨(List.replicate ((n : Int)).toNat ("x" : Str).cps.toList).flatten.toArray⟩ : Str) = mkS (List.replicate n 120) := by
  have : ("x" : Str).cps.toList = [120] := by decide +kernel
  rw [this, Int.toNat_natCast, List.flatten_replicate_singleton]
  rfl
theorem mul_x {n : Nat} (hn : n ≤ 100) : 0 ≤ (n : Int) ∧ (n : Int) < 2 ^ 62 ∧ Str.length "x" * (n : Int).toNat ≤ sizeLine := ⟨by omega, by omega, by
  have : Str.length "x" = 1 := by decide
  rw [this, Int.toNat_natCast, sizeLine_eq]
  omega⟩
section
variable {t h : Hap} {ns0 : List Int} {P : D → Hap → Prop} {env : Env}
theorem x_mulx {n : Nat} (hn : n ≤ 100) (k : P (.str (mkS (List.replicate n 120))) h) : Sat (mBin dMul (mC (.str "x")) (mC (.int n)) env h) P := by
  with_reducible refine x_bin ?_
  with_reducible refine x_c ?_
  with_reducible refine x_c ?_
  have hm := mul_x hn
  have e := rep_x n
  with_reducible refine v_muls hm ?_
  rw [e]
  exact k
theorem v_addl {xs ys : List D} (hl : xs.length + ys.length ≤ sizeLine) (k : P (.lst (xs ++ ys)) h) : Sat (ofO (dAdd (.lst xs) (.lst ys) h) h) P := by
  have e : dAdd (.lst xs) (.lst ys) h = some (.lst (xs ++ ys)) := by
    unfold dAdd
    simp only [getM]
    exact if_pos hl
  with_reducible exact x_some e k
theorem ended_k {rows : List Str} {s : ME} {j : Nat} (hs : ∀ Q : D → Hap → Prop, Q (.lst (rows.map .str)) h → Sat (s env h) Q) (hj : ∀ d, ((wipeE env [j]).set j (some d))[j]? = some (some d)) (hl : rows.length ≤ 100) (h2 : ∀ y ∈ rows, y.length ≤ 100) (k : P (.str (keyT rows)) h) :
    Sat (mMet "str" (gP dJoin) (mC (.str "")) (mCons (mComp (mI s) [j] (gNm j) mYes (mBin dAdd (mVar j) (mC (.str "\n")))) mNil) env h) P := by
  have l1 : NL.length = 1 := by decide
  refine x_met (x_c ⟨rfl, x_cons (x_compM (rows.map .str) (strF (· ++ NL)) (by rw [List.length_map]; exact sl_le (by omega)) (x_items rfl (hs _ ⟨rfl, rfl⟩)) (fun x m => ?_) ?_)⟩)
  · obtain ⟨z, mz, rfl⟩ := List.mem_map.mp m
    have := h2 z mz
    refine ⟨_, rfl, x_bin (x_var (hj _) (x_c ?_))⟩
    refine v_adds (sl_le (by rw [show ("\n" : Str).length = 1 from l1]; omega)) ?_
    exact ⟨rfl, rfl⟩
  rw [map_strF]
  refine x_nil (v_join (ys := rows.map (· ++ NL)) rfl ?_ k)
  have hs := sum_le (ys := rows.map (· ++ NL)) (m := 101) fun y m => by
    obtain ⟨z, mz, rfl⟩ := List.mem_map.mp m
    have := h2 z mz
    rw [len_app, l1]
    omega
  have h0 : Str.length "" = 0 := by decide
  rw [List.length_map] at hs
  rw [h0]
  have : rows.length * 101 ≤ 100 * 101 := Nat.mul_le_mul_right _ hl
  omega
theorem law_turned_k {tool : Str} {as : List Str} {ns : List Int} (K : Kx tool as ns) (hs : St t h) (hn : ns0.length ≤ 63) (k : ∀ z h', Bad z → St t h' → P (.str z) h') :
    Sat (Mi.m_law_turned [.ref 0, scr ns0, .str tool, .lst [.lst ((as.map (ARG ++ ·)).map .str), .lst ((ns.map fun n => INN ++ numS n).map .str)]] h) P := by
  obtain ⟨f1, f2, f3, f4, f5, f6⟩ := K.t.ex
  have lA : (as.map (ARG ++ ·)).length ≤ 13 := by rw [List.length_map]; exact K.la
  have lN : (ns.map fun n => INN ++ numS n).length ≤ 25 := by rw [List.length_map]; exact K.ln
  have hA : ∀ y ∈ as.map (ARG ++ ·), y.length ≤ 100 := fun y m => K.len.1 y (List.mem_cons_of_mem _ (List.mem_append_left _ m))
  have hN : ∀ y ∈ ns.map fun n => INN ++ numS n, y.length ≤ 100 := fun y m => K.len.1 y (List.mem_cons_of_mem _ (List.mem_append_right _ m))
  have b1 := bad1 K
  have b3 := bad3 K
  have b2 := fun {s : Str} => bad2 K (s := s)
  have eB : bodyL as ns = as.map (ARG ++ ·) ++ ns.map fun n => INN ++ numS n := rfl
  rw [eB] at b3
  have b2 : ∀ {s : Str}, free s → s.length ≤ 10 → Bad (keyT (tool :: (as.map (ARG ++ ·) ++ (ns.map fun n => INN ++ numS n) ++ [("in 0" : Str) ++ s]))) := fun h1 h2 => b2 h1 h2
  generalize as.map (ARG ++ ·) = A at *
  generalize (ns.map fun n => INN ++ numS n) = N at *
  have lAm : (A.map D.str).length ≤ 13 := by rw [List.length_map]; exact lA
  have lNm : (N.map D.str).length ≤ 25 := by rw [List.length_map]; exact lN
  unfold Mi.m_law_turned Mi.b_law_turned
  walk_at "x"
  walk_at "nx"
  intro r0 h0 a0 b0 s0
  walk_at "x"
  refine ⟨sl_le (by simp), ?_⟩
  walk_at "x"
  refine v_addl (sl_le (by show 1 + _ ≤ _; omega)) ?_
  walk_at "x"
  refine v_addl (sl_le (by rw [List.length_append]; show 1 + _ + _ ≤ _; omega)) ?_
  walk_at "x"
  have e1 : [D.str tool] ++ A.map D.str ++ N.map D.str = (tool :: (A ++ N)).map D.str := by simp
  rw [e1]
  have last : ∀ (rows : List Str) (x6 x7 : Option D) (h1 : Hap), rows.length ≤ 100 → (∀ y ∈ rows, y.length ≤ 100) → (r0 = 2 → Bad (cutS (keyT rows) none (some (((keyT rows).length : Int) - 1)))) → (r0 ≠ 2 → Bad (keyT rows)) → St t h1 →
      SatS (mSeq (mAsg (mMet "str" (gP dJoin) (mC (.str "")) (mCons (mComp (mI (mVar 5)) [7] (gNm 7) mYes (mBin dAdd (mVar 7) (mC (.str "\n")))) mNil)) (gNm 6)) (mRet (mSl (mVar 6) mNoP (mPart (mBin dSub (mCB dLen (mCons (mVar 6) mNil)) (mCB dInt (mCons (mBin dEq (mVar 4) (mC (.int 2))) mNil))))))
        [some (.ref 0), some (scr ns0), some (.str tool), some (.lst [.lst (A.map .str), .lst (N.map .str)]), some (.int r0), some (.lst (rows.map .str)), x6, x7] h1) ⟨fun _ h => P .non h, P, fun _ _ => False, fun _ _ => False⟩ := fun rows x6 x7 h1 hr1 hr2 hb1 hb2 s => by
    refine s_seq (s_asg' (ended_k (fun Q q => x_var rfl q) (fun d => rfl) hr1 hr2 ?_))
    have hkl := len_keyT hr2
    have : rows.length * 101 ≤ 100 * 101 := Nat.mul_le_mul_right _ hr1
    generalize keyT rows = z at *
    walk_at "x"
    refine v_lens (x := z) (sl_le (by omega)) ?_
    walk_at "x"
    refine v_slS (z := z) (sl_le (by omega)) ?_
    refine k _ _ ?_ s
    by_cases h2 : r0 = 2
    · rw [decide_eq_true h2]
      exact hb1 h2
    · rw [decide_eq_false h2]
      have e0 : cutS z none (some ((z.length : Int) - (if false = true then 1 else 0))) = z := by
        have := cut_to (a := z) (b := "")
        have ez : z ++ ("" : Str) = z := TL.ext_tl (by rw [TL.tl_append, tl_emp, List.append_nil])
        rw [ez] at this
        have e3 : ((z.length : Int) - (if false = true then 1 else 0)) = (z.length : Int) := by simp
        rw [e3]
        exact this
      rw [e0]
      exact hb2 h2
  have h3 : r0 = 0 ∨ r0 = 1 ∨ r0 = 2 := by omega
  have lall : ∀ y ∈ tool :: (A ++ N), y.length ≤ 100 := fun y m => by
    rcases List.mem_cons.mp m with rfl | m
    · omega
    rcases List.mem_append.mp m with m | m
    · exact hA y m
    · exact hN y m
  rcases h3 with rfl | rfl | rfl
  · refine s_seq ?_
    walk_at "x"
    refine ⟨fun _ => ?_, fun q => absurd q (by decide)⟩
    walk_at "x"
    refine ⟨sl_le (by simp), ?_⟩
    walk_at "x"
    refine v_addl (sl_le (by show 1 + _ ≤ _; omega)) ?_
    walk_at "x"
    refine ⟨sl_le (by simp), ?_⟩
    refine v_addl (sl_le (by rw [List.length_append]; show 1 + _ + 2 ≤ _; omega)) ?_
    walk_at "x"
    refine v_addl (sl_le (by rw [List.length_append, List.length_append]; show 1 + _ + 2 + _ ≤ _; omega)) ?_
    have e2 : [D.str tool] ++ N.map D.str ++ [D.str "in 7", D.str "arg a"] ++ A.map D.str = (tool :: (N ++ [("in 7" : Str), "arg a"] ++ A)).map D.str := by simp
    rw [e2]
    refine s_seq ?_
    walk_at "x"
    refine ⟨fun q => absurd q (by decide), fun _ => ?_⟩
    refine s_next ?_
    refine (last _ _ _ _ ?_ ?_ (fun q => absurd q (by decide)) (fun _ => b1) s0)
    · rw [List.length_cons, List.length_append, List.length_append]; show _ + 2 + _ + 1 ≤ _; omega
    · intro y m
      rcases List.mem_cons.mp m with rfl | m
      · omega
      rcases List.mem_append.mp m with m | m
      · rcases List.mem_append.mp m with m | m
        · exact hN y m
        · simp only [List.mem_cons, List.not_mem_nil, or_false] at m
          rcases m with rfl | rfl <;> decide
      · exact hA y m
  · refine s_seq ?_
    walk_at "x"
    refine ⟨fun q => absurd q (by decide), fun _ => ?_⟩
    refine s_next ?_
    refine s_seq ?_
    walk_at "x"
    refine ⟨fun _ => ?_, fun q => absurd q (by decide)⟩
    walk_at "x"
    walk_at "nx"
    intro r1 h1 a1 b1' s1
    have hlog : r1.natAbs.log2 < 1920 := by
      have h1 : r1.natAbs < 2 ^ 10 := by omega
      have h2 : r1.natAbs.log2 ≤ 10 := by
        rcases Nat.eq_zero_or_pos r1.natAbs with z | z
        · rw [z]; decide
        · have := (Nat.log2_lt (by omega)).mpr h1
          omega
      omega
    have hl3 : (numS r1).length ≤ 3 := by
      obtain ⟨n, rfl⟩ : ∃ n : Nat, r1 = (n : Int) := ⟨r1.toNat, by omega⟩
      have : ∀ n : Nat, n < 1000 → (TL.numL n).length ≤ 3 := by
        have h : ((List.range 1000).all fun n => decide ((TL.numL n).length ≤ 3)) = true := by decide +kernel
        intro n hn
        exact of_decide_eq_true (List.all_eq_true.mp h n (List.mem_range.mpr hn))
      rw [TL.len_tl, TL.tl_num]
      exact this n (by omega)
    refine x_nil (x_some (d := .str (numS r1)) (if_pos hlog) ?_)
    have l0 : ("in 0" : Str).length = 4 := by decide
    refine v_adds (sl_le (by rw [l0]; omega)) ?_
    walk_at "x"
    refine ⟨sl_le (by simp), ?_⟩
    refine v_addl (sl_le (by rw [List.length_map, List.length_cons, List.length_append]; show _ + 1 ≤ _; omega)) ?_
    have e2 : (tool :: (A ++ N)).map D.str ++ [D.str (("in 0" : Str) ++ numS r1)] = (tool :: (A ++ N ++ [("in 0" : Str) ++ numS r1])).map D.str := by simp
    rw [e2]
    refine (last _ _ _ _ ?_ ?_ (fun q => absurd q (by decide)) (fun _ => b2 (num_free r1) (by omega)) s1)
    · rw [List.length_cons, List.length_append, List.length_append]; show _ + _ + 1 + 1 ≤ _; omega
    · intro y m
      rcases List.mem_append.mp (show y ∈ tool :: (A ++ N) ++ [("in 0" : Str) ++ numS r1] from m) with m | m
      · exact lall y m
      · rw [List.mem_singleton.mp m, len_app, l0]; omega
  · refine s_seq ?_
    walk_at "x"
    refine ⟨fun q => absurd q (by decide), fun _ => ?_⟩
    refine s_next ?_
    refine s_seq ?_
    walk_at "x"
    refine ⟨fun q => absurd q (by decide), fun _ => ?_⟩
    refine s_next ?_
    refine (last _ _ _ _ ?_ lall (fun _ => ?_) (fun q => absurd rfl q) s0)
    · rw [List.length_cons, List.length_append]; omega
    · rw [keyT_nl _ (by simp)]
      have l1 : NL.length = 1 := by decide
      have e3 : (((Txt.join NL (tool :: (A ++ N)) ++ NL).length : Int) - 1) = ((Txt.join NL (tool :: (A ++ N))).length : Nat) := by
        rw [len_app, l1]
        omega
      rw [e3, cut_to]
      exact b3
end
end Vi

set_option Elab.async false
set_option linter.all false
set_option autoImplicit false
set_option maxRecDepth 100000
set_option maxHeartbeats 2000000
namespace Vi
open PySem PySem.Spec PyProof.Rows L2
open scoped Classical
local macro_rules | `(tactic| walk_at "x1") => `(tactic| with_reducible first
  | refine x_bin ?_ | refine x_tst ?_ | refine x_oB ?_ | refine x_c ?_ | refine s_seqA ?_ | refine s_seqU ?_ | refine s_seqE ?_ | refine s_seqN ?_ | refine s_asg' ?_ | refine s_if' ?_ | refine s_ret' ?_ | refine s_exp' ?_ | refine s_next ?_ | refine s_retN' ?_ | refine s_sub' ?_
  | refine x_cb ?_ | refine x_cons ?_ | refine x_nil ?_ | refine x_call ?_ | refine x_met ?_ | refine x_un ?_ | refine x_notT ?_ | refine x_andT ?_ | refine x_orT ?_ | refine x_and ?_ | refine x_or ?_ | refine x_not ?_ | refine x_if ?_
  | refine x_tup ?_ | refine x_lst ?_ | refine x_cel ?_ | refine x_sl ?_ | refine x_noP ?_ | refine x_part ?_ | refine x_oI ?_ | refine x_mI ?_ | refine x_rng ?_ | refine x_yes ?_ | refine x_chn ?_ | refine x_fun ?_ | refine x_ok ?_)
local macro_rules | `(tactic| walk_at "x2") => `(tactic| first
  | ((with_reducible refine y_var ?_); refine ⟨_, rfl, ?_⟩)
  | ((with_reducible refine y_some ?_); refine ⟨_, rfl, ?_⟩)
  | ((with_reducible refine y_gP ?_); refine ⟨_, rfl, ?_⟩))
local macro_rules | `(tactic| walk_at "x") => `(tactic| repeat (first | walk_at "x1" | walk_at "x2" ))
local macro_rules | `(tactic| walk_at "nx") => `(tactic| (refine next_k (by assumption) (by assumption) (by first | decide | omega) (by first | decide | omega) ?_))

/-! ### a key is right -/
theorem in_ints {x : Int} {ys : List Int} {h : Hap} : inO (.int x) (.tup (ys.map .int)) h = some (decide (x ∈ ys)) := by
  have fl : fls (ys.map D.int) = some (ys.map V.int) := by
    induction ys with
    | nil => rfl
    | cons y ys ih => rw [List.map_cons, fls, ih]; rfl
  have e : inV (.int x) (ys.map V.int) = decide (x ∈ ys) := by
    unfold inV
    rw [Bool.eq_iff_iff, List.any_eq_true, decide_eq_true_iff]
    constructor
    · rintro ⟨v, m, q⟩
      obtain ⟨y, m2, rfl⟩ := List.mem_map.mp m
      have q : (y == x) = true := q
      rw [← beq_iff_eq.mp q]
      exact m2
    · intro m
      exact ⟨.int x, List.mem_map.mpr ⟨x, m, rfl⟩, (beq_self_eq_true x : (x == x) = true)⟩
  show (match (D.int x).fl, (getQ (.tup (ys.map .int)) h).bind fls with
    | some x, some xs => some (inV x xs)
    | _, _ => none) = _
  have : (getQ (.tup (ys.map D.int)) h).bind fls = some (ys.map V.int) := fl
  rw [this]
  exact congrArg some e
theorem eq_ref {h : Hap} : dEq refD refD h = some (.bl true) := by
  have : eqO refD refD h = some true := by
    show (if SeqAt.shaped (.list [.str "refused", .bool true]) = true ∧ SeqAt.shaped (.list [.str "refused", .bool true]) = true then some (PyData.eqv (.list [.str "refused", .bool true]) (.list [.str "refused", .bool true])) else none) = _
    rw [if_pos ⟨by decide +kernel, by decide +kernel⟩]
    exact congrArg some (by decide +kernel)
  show (eqO refD refD h).map D.bl = _
  rw [this]
  rfl
theorem pls_strs : ∀ as : List Str, D.pls (as.map .str) = true ∧ D.szs (as.map .str) = 0
  | [] => ⟨rfl, rfl⟩
  | a :: as => by
    have ih := pls_strs as
    exact ⟨by rw [List.map_cons, D.pls, ih.1]; rfl, by rw [List.map_cons, D.szs, ih.2]; rfl⟩
theorem pls_ints : ∀ as : List Int, D.pls (as.map .int) = true ∧ D.szs (as.map .int) = 0
  | [] => ⟨rfl, rfl⟩
  | a :: as => by
    have ih := pls_ints as
    exact ⟨by rw [List.map_cons, D.pls, ih.1]; rfl, by rw [List.map_cons, D.szs, ih.2]; rfl⟩
theorem key_pl {tool : Str} {as : List Str} {ns : List Int} (la : as.length ≤ 100) (ln : ns.length ≤ 100) : D.pl (.tup [.str tool, .tup (as.map .str), .tup (ns.map .int)]) = true ∧ D.sz (.tup [.str tool, .tup (as.map .str), .tup (ns.map .int)]) < 12 := by
  have h1 := pls_strs as
  have h2 := pls_ints ns
  constructor
  · simp [D.pl, D.pls, h1.1, h2.1]
    omega
  · simp [D.sz, D.szs, h1.2, h2.2]
abbrev X61 : Str := mkS (List.replicate 61 120)
def goodK (tool : Str) (as : List Str) (ns : List Int) : Bool := wordOk tool && (decide (as.length < 13) && (decide (ns.length < 25) && (!decide (X61 ∈ as) && (!decide ((100000 : Int) ∈ ns) && !decide ((0 : Int) ∈ ns)))))
theorem good_iff {tool : Str} {as : List Str} {ns : List Int} (K : Kx tool as ns) : goodK tool as ns = true ↔ (wordOk tool = true ∧ argsB as = true ∧ namesB (ns.map numS) = true) := by
  unfold goodK argsB namesB
  simp only [Bool.and_eq_true, decide_eq_true_eq, Bool.not_eq_true', decide_eq_false_iff_not, List.all_eq_true, List.length_map]
  constructor
  · rintro ⟨h1, h2, h3, h4, h5, h6⟩
    refine ⟨h1, ⟨by omega, fun a m => ?_⟩, by omega, fun z m => ?_⟩
    · rw [(a6_ok a (K.a a m)).2.2, Bool.not_eq_true', decide_eq_false_iff_not]
      rintro rfl
      exact h4 m
    · obtain ⟨n, mn, rfl⟩ := List.mem_map.mp m
      rw [(n9_ok n (K.n n mn)).2.2.2.1, Bool.and_eq_true, Bool.not_eq_true', Bool.not_eq_true', decide_eq_false_iff_not, decide_eq_false_iff_not]
      exact ⟨by rintro rfl; exact h5 mn, by rintro rfl; exact h6 mn⟩
  · rintro ⟨h1, ⟨h2, h3⟩, h4, h5⟩
    refine ⟨h1, by omega, by omega, fun m => ?_, fun m => ?_, fun m => ?_⟩
    · have := h3 _ m
      rw [(a6_ok _ (K.a _ m)).2.2, decide_eq_true (show X61 = mkS (List.replicate 61 120) from rfl)] at this
      cases this
    · have := h5 _ (List.mem_map.mpr ⟨_, m, rfl⟩)
      rw [(n9_ok _ (K.n _ m)).2.2.2.1] at this
      simp at this
    · have := h5 _ (List.mem_map.mpr ⟨_, m, rfl⟩)
      rw [(n9_ok _ (K.n _ m)).2.2.2.1] at this
      simp at this
section
variable {t h : Hap} {ns0 : List Int} {P : D → Hap → Prop} {env : Env}
theorem and_k {a b : ME} {x y : Bool} (ha : ∀ Q : D → Hap → Prop, Q (.bl x) h → Sat (a env h) Q) (hb : ∀ Q : D → Hap → Prop, Q (.bl y) h → Sat (b env h) Q) (k : P (.bl (x && y)) h) : Sat (mAnd a b env h) P := by
  refine x_and (ha _ ⟨_, rfl, fun e => ?_, fun e => ?_⟩)
  · rw [e, Bool.true_and] at k
    exact hb _ k
  · rw [e, Bool.false_and] at k
    exact k
theorem law_key_right_k (hs : St t h) (hn : ns0.length ≤ 63) (k : ∀ t' h', St t' h' → P (.bl true) h') : Sat (Mi.m_law_key_right_2 [.ref 0, scr ns0] h) P := by
  unfold Mi.m_law_key_right_2 Mi.b_law_key_right_2
  walk_at "x"
  refine law_drawn_tool_k hs hn fun tool h1 hT s1 => ?_
  walk_at "x"
  refine ⟨sl_le (by simp), ?_⟩
  walk_at "x"
  walk_at "nx"
  intro r1 h2 a1 b1 s2
  obtain ⟨d, e1, m, _⟩ := atI_ok (xs := [D.int 3, .int 3, .int 14]) a1 b1
  obtain ⟨m1, rfl, hm1, hm2⟩ : ∃ m : Int, d = .int m ∧ 0 < m ∧ m ≤ 14 := by
    simp only [List.mem_cons, List.not_mem_nil, or_false] at m
    rcases m with rfl | rfl | rfl
    all_goals exact ⟨_, rfl, by decide, by decide⟩
  refine x_some (d := .int m1) e1 ?_
  refine x_nil (next_k s2 hn hm1 (by omega) ?_)
  intro r2 h3 a2 b2 s3
  walk_at "x"
  refine x_compI (fun pre post h acc => ∃ as : List Str, acc = as.map .str ∧ as.length = pre.length ∧ (∀ a ∈ as, a ∈ A6) ∧ St t h) ?_
  walk_at "x"
  refine x_rng1 (by omega) ⟨⟨[], rfl, rfl, fun a m => (nomatch m), s3⟩, fun _ _ _ _ _ _ => trivial, ?_, ?_⟩
  · rintro pre x post h4 acc hx ⟨as, rfl, hl, ha, s4⟩
    obtain ⟨rfl, hk⟩ := rng_item hx
    refine ⟨_, rfl, x_yes ⟨fun _ => ⟨by rw [List.length_map]; exact Nat.lt_of_lt_of_le (show as.length < 1000 by omega) (sl_le (by decide)), ?_⟩, fun q => (nomatch q)⟩⟩
    refine x_bin (x_lst (x_cons (x_c (x_cons (x_c (x_cons (x_c ?_)))))))
    refine x_cons (x_mulx (n := 59) (by decide) (x_cons (x_mulx (n := 60) (by decide) (x_cons (x_mulx (n := 61) (by decide) (x_nil ⟨sl_le (by simp), ?_⟩))))))
    walk_at "x"
    refine next_k s4 hn ?_ ?_ ?_
    · split <;> omega
    · split <;> omega
    intro r5 h5 a5 b5 s5
    have b6 : r5 < 6 := by split at b5 <;> omega
    obtain ⟨d, e3, m3, _⟩ := atI_ok (xs := A6.map D.str) a5 b6
    obtain ⟨a, am, rfl⟩ := List.mem_map.mp m3
    refine x_some (d := .str a) e3 ?_
    refine ⟨as ++ [a], by rw [List.map_append]; rfl, by rw [List.length_append, List.length_append, hl]; rfl, fun y m => ?_, s5⟩
    rcases List.mem_append.mp m with m | m
    · exact ha y m
    · rw [List.mem_singleton.mp m]; exact am
  rintro h4 acc ⟨as, rfl, hl, ha, s4⟩
  have hl : as.length = (rngL 0 r2.toNat).length := hl
  have hlr : (rngL 0 r2.toNat).length = r2.toNat := by simp [rngL]
  have la : as.length ≤ 13 := by omega
  refine x_nil (x_some (d := .tup (as.map .str)) rfl ?_)
  walk_at "x"
  refine ⟨sl_le (by simp), ?_⟩
  walk_at "x"
  walk_at "nx"
  intro r6 h6 a6 b6 s6
  obtain ⟨d, e6, m6, _⟩ := atI_ok (xs := [D.int 3, .int 3, .int 26]) a6 b6
  obtain ⟨m7, rfl, hm7, hm8⟩ : ∃ m : Int, d = .int m ∧ 0 < m ∧ m ≤ 26 := by
    simp only [List.mem_cons, List.not_mem_nil, or_false] at m6
    rcases m6 with rfl | rfl | rfl
    all_goals exact ⟨_, rfl, by decide, by decide⟩
  refine x_some (d := .int m7) e6 ?_
  refine x_nil (next_k s6 hn hm7 (by omega) ?_)
  intro r7 h7 a7 b7 s7
  walk_at "x"
  refine x_compI (fun pre post h acc => ∃ ns : List Int, acc = ns.map .int ∧ ns.length = pre.length ∧ (∀ a ∈ ns, a ∈ N9) ∧ St t h) ?_
  walk_at "x"
  refine x_rng1 (by omega) ⟨⟨[], rfl, rfl, fun a m => (nomatch m), s7⟩, fun _ _ _ _ _ _ => trivial, ?_, ?_⟩
  · rintro pre x post h8 acc hx ⟨ns, rfl, hl2, hns, s8⟩
    obtain ⟨rfl, hk⟩ := rng_item hx
    refine ⟨_, rfl, x_yes ⟨fun _ => ⟨by rw [List.length_map]; exact Nat.lt_of_lt_of_le (show ns.length < 1000 by omega) (sl_le (by decide)), ?_⟩, fun q => (nomatch q)⟩⟩
    walk_at "x"
    refine ⟨sl_le (by simp), ?_⟩
    walk_at "x"
    have hb : (if (fun i j => decide (j < i)) r7 (2 : Int) = true then (1 : Int) else 0) = 0 ∨ (if (fun i j => decide (j < i)) r7 (2 : Int) = true then (1 : Int) else 0) = 1 := by split <;> simp
    generalize (if (fun i j => decide (j < i)) r7 (2 : Int) = true then (1 : Int) else 0) = bb at hb ⊢
    refine v_mul (.inl ⟨by omega, by omega⟩) ?_
    walk_at "x"
    refine next_k s8 hn ?_ ?_ ?_
    · omega
    · omega
    intro r9 h9 a9 b9 s9
    have b10 : r9 < 9 := by omega
    obtain ⟨d, e9, m9, _⟩ := atI_ok (xs := N9.map D.int) a9 b10
    obtain ⟨n, nm, rfl⟩ := List.mem_map.mp m9
    refine x_some (d := .int n) e9 ?_
    refine ⟨ns ++ [n], by rw [List.map_append]; rfl, by rw [List.length_append, List.length_append, hl2]; rfl, fun y m => ?_, s9⟩
    rcases List.mem_append.mp m with m | m
    · exact hns y m
    · rw [List.mem_singleton.mp m]; exact nm
  rintro h8 acc ⟨ns, rfl, hl2, hns, s8⟩
  have hl2 : ns.length = (rngL 0 r7.toNat).length := hl2
  have hlr2 : (rngL 0 r7.toNat).length = r7.toNat := by simp [rngL]
  have ln : ns.length ≤ 25 := by omega
  have K : Kx tool as ns := ⟨hT, ha, hns, la, ln⟩
  refine x_nil (x_some (d := .tup (ns.map .int)) rfl ?_)
  clear hl hlr hl2 hlr2
  refine s_seq (s_asg' (x_lst (x_cons (x_compM (as.map .str) (strF (ARG ++ ·)) (by rw [List.length_map]; exact sl_le (by omega)) (x_items rfl (x_var rfl ⟨rfl, rfl⟩)) (fun x m => ?_) ?_))))
  · obtain ⟨a, ma, rfl⟩ := List.mem_map.mp m
    have := (a6_ok a (ha a ma)).2.1
    refine ⟨_, rfl, x_bin (x_c (x_var rfl ?_))⟩
    refine v_adds (sl_le (by rw [show ("arg " : Str).length = 4 from len_arg]; omega)) ?_
    exact ⟨rfl, rfl⟩
  rw [map_strF]
  refine x_cons (x_compM (ns.map .int) (fun d => match d with
    | .int i => .str (INN ++ numS i)
    | d => d) (by rw [List.length_map]; exact sl_le (by omega)) (x_items rfl (x_var rfl ⟨rfl, rfl⟩)) (fun x m => ?_) ?_)
  · obtain ⟨n, mn, rfl⟩ := List.mem_map.mp m
    have q := n9_ok n (hns n mn)
    refine ⟨_, rfl, x_bin (x_c (x_cb (x_cons (x_var rfl (x_nil (x_some (d := .str (numS n)) (if_pos q.2.2.1) ?_))))))⟩
    refine v_adds (sl_le (by rw [show ("in " : Str).length = 3 from len_inn]; have := q.2.1; omega)) ?_
    exact ⟨rfl, rfl⟩
  have em : (ns.map D.int).map (fun d => match d with
    | .int i => .str (INN ++ numS i)
    | d => d) = (ns.map fun n => INN ++ numS n).map D.str := by
    rw [List.map_map, List.map_map]
    rfl
  rw [em]
  refine x_nil ⟨sl_le (by simp), ?_⟩
  have lt : (tool :: (as.map (ARG ++ ·) ++ ns.map fun n => INN ++ numS n)).length ≤ 100 := by
    have := K.len.2
    show (bodyL as ns).length + 1 ≤ 100
    omega
  refine s_seq (s_asg' (ended_k (rows := tool :: bodyL as ns) (fun Q q => ?_) (fun d => rfl) lt (fun y m => K.len.1 y m) ?_))
  · walk_at "x"
    refine ⟨sl_le (by simp), ?_⟩
    walk_at "x"
    refine v_addl (sl_le (by rw [List.length_map, List.length_map]; show 1 + _ ≤ _; omega)) ?_
    walk_at "x"
    refine v_addl (sl_le (by rw [List.length_append, List.length_map, List.length_map, List.length_map, List.length_map]; show 1 + _ + _ ≤ _; omega)) ?_
    have e2 : [D.str tool] ++ (as.map (ARG ++ ·)).map D.str ++ (ns.map fun n => INN ++ numS n).map D.str = (tool :: bodyL as ns).map D.str := by unfold bodyL; simp
    rw [e2]
    exact q
  refine s_seq ?_
  walk_at "x"
  walk_at "nx"
  intro r10 h10 a10 b10 s10
  walk_at "x"
  refine ⟨fun _ => ?_, fun _ => ?_⟩
  · walk_at "x"
    refine law_turned_k K s10 hn fun z h11 hb s11 => ?_
    walk_at "x"
    refine hb _ _ fun t2 => ?_
    walk_at "x"
    refine ⟨sl_le (by simp), ?_⟩
    exact x_some eq_ref (k _ _ (s11.more (u := t2)))
  refine s_next ?_
  dsimp only
  refine s_seq (s_asg' (and_k (x := wordOk tool) (fun Q q => x_call (x_cons (x_var rfl (x_nil (law_is_word_k (by have := hT.ex.2.2.1; omega) hT.ex.2.1 q))))) (fun Q q => and_k (x := decide (as.length < 13)) (fun Q q => ?_) (fun Q q => and_k (x := decide (ns.length < 25)) (fun Q q => ?_) (fun Q q => and_k (x := !decide (X61 ∈ as)) (fun Q q => ?_) (fun Q q => and_k (x := !decide ((100000 : Int) ∈ ns)) (fun Q q => ?_) (y := !decide ((0 : Int) ∈ ns)) (fun Q q => ?_) q) q) q) q) ?_))
  · refine x_bin (x_cb (x_cons (x_var rfl (x_nil (x_some (d := .int (as.length : Int)) (by show some (D.int ((as.map D.str).length : Int)) = _; rw [List.length_map]) (x_c (x_some (d := .bl (decide (as.length < 13))) ?_ q)))))))
    show some (D.bl (decide ((as.length : Int) < 13))) = _
    rw [show decide ((as.length : Int) < 13) = decide (as.length < 13) from decide_eq_decide.mpr (by omega)]
  · refine x_bin (x_cb (x_cons (x_var rfl (x_nil (x_some (d := .int (ns.length : Int)) (by show some (D.int ((ns.map D.int).length : Int)) = _; rw [List.length_map]) (x_c (x_some (d := .bl (decide (ns.length < 25))) ?_ q)))))))
    show some (D.bl (decide ((ns.length : Int) < 25))) = _
    rw [show decide ((ns.length : Int) < 25) = decide (ns.length < 25) from decide_eq_decide.mpr (by omega)]
  · with_reducible refine x_bin ?_
    refine x_mulx (n := 61) (by decide) (x_var rfl (x_some (d := .bl (!decide (X61 ∈ as))) ?_ q))
    show (inO _ _ _).map _ = _
    rw [in_strs.1]
    rfl
  · with_reducible refine x_bin (x_c ?_)
    refine x_var rfl (x_some (d := .bl (!decide ((100000 : Int) ∈ ns))) ?_ q)
    show (inO _ _ _).map _ = _
    rw [in_ints]
    rfl
  · with_reducible refine x_bin (x_c ?_)
    refine x_var rfl (x_some (d := .bl (!decide ((0 : Int) ∈ ns))) ?_ q)
    show (inO _ _ _).map _ = _
    rw [in_ints]
    rfl
  have eG : (wordOk tool && (decide (as.length < 13) && (decide (ns.length < 25) && (!decide (X61 ∈ as) && (!decide ((100000 : Int) ∈ ns) && !decide ((0 : Int) ∈ ns)))))) = goodK tool as ns := rfl
  rw [eG]
  have gi := good_iff K
  generalize goodK tool as ns = G at gi ⊢
  refine s_seq (s_asg' (x_call (x_cons (x_var rfl (x_nil (told_key K (fun a b c t1 => ?_) fun no t1 => ?_))))))
  · have hG : G = true := gi.mpr ⟨a, b, c⟩
    subst hG
    have hpl : D.pl (.tup [.str tool, .tup (as.map .str), .tup (ns.map .int)]) = true ∧ D.sz (.tup [.str tool, .tup (as.map .str), .tup (ns.map .int)]) < 12 := key_pl (by omega) (by omega)
    have hts : tool.length ≤ 1000 := by have := hT.ex.2.2.1; omega
    have hkt : ∀ (h : Hap) (P : D → Hap → Prop), (∀ t, P (.str (keyT (tool :: bodyL as ns))) (h ++ t)) → Sat (Mi.m_key_text [.tup [.str tool, .tup (as.map .str), .tup (ns.map .int)]]  h) P := fun h P k => key_text_k hts (by omega) (fun a m => by have := (a6_ok a (ha a m)).2.1; omega) (by omega) (fun n m => by have q := n9_ok n (hns n m); exact ⟨q.2.2.1, by have := q.2.1; omega⟩) k
    have hp1 := hpl.1
    have hp2 := hpl.2
    clear hpl
    dsimp only
    have eT : ∀ Q : D → Hap → Prop, Q (.tup [.str tool, .tup (as.map .str), .tup (ns.map .int)]) (h10 ++ t1) → True := fun _ _ => trivial
    clear eT
    with_reducible refine s_seq ?_
    walk_at "x"
    refine ⟨fun q => (nomatch q), fun _ => ?_⟩
    walk_at "x"
    refine ⟨sl_le (by simp), ?_⟩
    walk_at "x"
    with_reducible refine same_k hp2 hp1 hp1 ?_
    refine ⟨_, rfl, fun _ => ?_, fun q => absurd q (by rw [decide_eq_true rfl]; decide)⟩
    walk_at "x"
    refine ⟨sl_le (by simp), ?_⟩
    walk_at "x"
    refine hkt _ _ fun t2 => ?_
    walk_at "x"
    generalize keyT (tool :: bodyL as ns) = z
    refine same_k (a := .str z) (b := .str z) (show 0 < 12 by decide) rfl rfl ?_
    rw [decide_eq_true (rfl : D.str z = .str z)]
    exact k _ _ (s10.more.more)
  · have hG : G = false := by
      cases hq : G with
      | false => rfl
      | true => exact absurd (gi.mp hq) no
    subst hG
    refine s_seq ?_
    walk_at "x"
    refine ⟨fun _ => ?_, fun q => (nomatch q)⟩
    walk_at "x"
    refine ⟨sl_le (by simp), ?_⟩
    exact x_some eq_ref (k _ _ s10.more)
end
end Vi

set_option Elab.async false
set_option linter.all false
set_option autoImplicit false
set_option maxRecDepth 100000
set_option maxHeartbeats 2000000
namespace Vi
open PySem PySem.Spec PyProof.Rows L2
open scoped Classical
local macro_rules | `(tactic| walk_at "x1") => `(tactic| with_reducible first
  | refine x_bin ?_ | refine x_tst ?_ | refine x_oB ?_ | refine x_c ?_ | refine s_seqA ?_ | refine s_seqU ?_ | refine s_seqE ?_ | refine s_seqN ?_ | refine s_asg' ?_ | refine s_if' ?_ | refine s_ret' ?_ | refine s_exp' ?_ | refine s_next ?_ | refine s_retN' ?_ | refine s_sub' ?_
  | refine x_cb ?_ | refine x_cons ?_ | refine x_nil ?_ | refine x_call ?_ | refine x_met ?_ | refine x_un ?_ | refine x_notT ?_ | refine x_andT ?_ | refine x_orT ?_ | refine x_and ?_ | refine x_or ?_ | refine x_not ?_ | refine x_if ?_
  | refine x_tup ?_ | refine x_lst ?_ | refine x_cel ?_ | refine x_sl ?_ | refine x_noP ?_ | refine x_part ?_ | refine x_oI ?_ | refine x_mI ?_ | refine x_rng ?_ | refine x_yes ?_ | refine x_chn ?_ | refine x_fun ?_ | refine x_ok ?_)
local macro_rules | `(tactic| walk_at "x2") => `(tactic| first
  | ((with_reducible refine y_var ?_); refine ⟨_, rfl, ?_⟩)
  | ((with_reducible refine y_some ?_); refine ⟨_, rfl, ?_⟩)
  | ((with_reducible refine y_gP ?_); refine ⟨_, rfl, ?_⟩))
local macro_rules | `(tactic| walk_at "x") => `(tactic| repeat (first | walk_at "x1" | walk_at "x2" ))
local macro_rules | `(tactic| walk_at "nx") => `(tactic| (refine next_k (by assumption) (by assumption) (by first | decide | omega) (by first | decide | omega) ?_))

/-! ### claims are right -/
def refB (z : Str) : Bool := decide ((Txt.partition z NL).2.1 = "") || !toldB (Txt.partition z NL).1 (Txt.partition z NL).2.2
theorem refB_k {z : Str} (h : refB z = true) {a b : Str} (e : z = a ++ NL ++ b) (ha : 10 ∉ TL.tl a) : toldB a b = false := by
  have hp := TL.partition_app (y := NL) (b := b) tl_nl ha
  rw [← e] at hp
  unfold refB at h
  rw [hp] at h
  have hn : decide (NL = ("" : Str)) = false := by decide +kernel
  simp only [hn, Bool.false_or, Bool.not_eq_true'] at h
  exact h
def waysA (w : Str) (n : Nat) : List Str := [w, "", ("\n" : Str) ++ w, w ++ (" \na" : Str), w ++ ("s\na" : Str), (" " : Str) ++ w ++ ("\na" : Str), cutS w none (some (n : Int)) ++ cutS w (some ((n : Int) + 1)) none ++ ("a\nb" : Str)]
def waysB (w : Str) (n : Nat) : List Str := [cutS w none (some (n : Int)) ++ ("M" : Str) ++ cutS w (some (n : Int)) none ++ ("\na" : Str), w ++ ("a" : Str), ("a\n" : Str) ++ w ++ ("\n" : Str)]
theorem ways_ok : ∀ w ∈ ([("made" : Str), "failed"] : List Str), ∀ n ≤ 6, n ≤ w.length → ∀ z ∈ waysA w n ++ waysB w n, refB z = true ∧ z.length ≤ 20 := by decide +kernel
section
variable {t h : Hap} {ns0 : List Int} {P : D → Hap → Prop} {env : Env}
theorem law_claim_refused_k (hs : St t h) (hn : ns0.length ≤ 63) (k : ∀ t' h', St t' h' → P (.bl true) h') : Sat (Mi.m_law_claim_refused [.ref 0, scr ns0] h) P := by
  unfold Mi.m_law_claim_refused Mi.b_law_claim_refused
  walk_at "x"
  refine ⟨sl_le (by simp), ?_⟩
  walk_at "x"
  walk_at "nx"
  intro r0 h0 a0 b0 s0
  obtain ⟨d, e1, m, _⟩ := atI_ok (xs := [("made" : Str), "failed"].map D.str) a0 b0
  obtain ⟨w, wm, rfl⟩ := List.mem_map.mp m
  refine x_some (d := .str w) e1 ?_
  have hwl : 4 ≤ w.length ∧ w.length ≤ 6 := by
    have : ∀ w ∈ ([("made" : Str), "failed"] : List Str), 4 ≤ w.length ∧ w.length ≤ 6 := by decide +kernel
    exact this w wm
  walk_at "x"
  refine v_lens (x := w) (sl_le (by omega)) ?_
  walk_at "x"
  refine next_k s0 hn ?_ ?_ ?_
  · omega
  · omega
  intro r1 h1 a1 b1 s1
  obtain ⟨n, rfl⟩ : ∃ n : Nat, r1 = (n : Int) := ⟨r1.toNat, by omega⟩
  have wo := ways_ok w wm n (by omega) (by omega)
  have c1 := len_cutS w none (some (n : Int))
  have c2 := len_cutS w (some ((n : Int) + 1)) none
  have c3 := len_cutS w (some (n : Int)) none
  have hA : waysA w n = [w, "", ("\n" : Str) ++ w, w ++ (" \na" : Str), w ++ ("s\na" : Str), (" " : Str) ++ w ++ ("\na" : Str), cutS w none (some (n : Int)) ++ cutS w (some ((n : Int) + 1)) none ++ ("a\nb" : Str)] := rfl
  have hB : waysB w n = [cutS w none (some (n : Int)) ++ ("M" : Str) ++ cutS w (some (n : Int)) none ++ ("\na" : Str), w ++ ("a" : Str), ("a\n" : Str) ++ w ++ ("\n" : Str)] := rfl
  have l1 : Str.length "\n" = 1 := by decide
  have l2 : Str.length " \na" = 3 := by decide
  have l3 : Str.length "s\na" = 3 := by decide
  have l4 : Str.length " " = 1 := by decide
  have l5 : Str.length "\na" = 2 := by decide
  have l6 : Str.length "a\nb" = 3 := by decide
  have l7 : Str.length "M" = 1 := by decide
  have l8 : Str.length "a" = 1 := by decide
  have l9 : Str.length "a\n" = 2 := by decide
  have ad : ∀ {x y : Str} {h : Hap} {P : D → Hap → Prop}, x.length + y.length ≤ 1000 → P (.str (x ++ y)) h → Sat (ofO (dAdd (.str x) (.str y) h) h) P := fun hl p => v_adds (sl_le (by omega)) p
  walk_at "x"
  refine ad (by omega) ?_
  walk_at "x"
  refine ad (by omega) ?_
  walk_at "x"
  refine ad (by omega) ?_
  walk_at "x"
  refine ad (by omega) ?_
  walk_at "x"
  refine ad (by rw [len_app]; omega) ?_
  walk_at "x"
  refine v_slS (z := w) (sl_le (by omega)) ?_
  walk_at "x"
  refine v_slS (z := w) (sl_le (by omega)) ?_
  refine ad (by omega) ?_
  walk_at "x"
  refine ad (by rw [len_app]; omega) ?_
  walk_at "x"
  refine ⟨sl_le (by simp), ?_⟩
  walk_at "x"
  refine v_slS (z := w) (sl_le (by omega)) ?_
  walk_at "x"
  refine ad (by omega) ?_
  walk_at "x"
  refine v_slS (z := w) (sl_le (by omega)) ?_
  refine ad (by rw [len_app]; omega) ?_
  walk_at "x"
  refine ad (by rw [len_app, len_app]; omega) ?_
  walk_at "x"
  refine ad (by omega) ?_
  walk_at "x"
  refine ad (by omega) ?_
  walk_at "x"
  refine ad (by rw [len_app]; omega) ?_
  walk_at "x"
  refine ⟨sl_le (by simp), ?_⟩
  refine v_addl (sl_le (by simp)) ?_
  have eW : (waysA w n).map D.str ++ (waysB w n).map D.str = (waysA w n ++ waysB w n).map D.str := by rw [List.map_append]
  have lW : (waysA w n ++ waysB w n).length = 10 := rfl
  refine s_seq (X.tryAs (X.exp ?_))
  refine x_cons (x_bin (x_var (d := .lst ((waysA w n ++ waysB w n).map D.str)) rfl (x_call (x_cons (x_var rfl (x_cons (x_var rfl (x_cons (x_c (x_nil ?_)))))))))) 
  walk_at "nx"
  intro r2 h2 a2 b2 s2
  obtain ⟨d, e3, m3, _⟩ := atI_ok (xs := (waysA w n ++ waysB w n).map D.str) a2 (by rw [List.length_map, lW]; exact b2)
  obtain ⟨z, zm, rfl⟩ := List.mem_map.mp m3
  have hz := wo z zm
  refine x_some (d := .str z) e3 (x_nil ?_)
  refine read_claim_k (by omega) (fun a b ez hna told => ?_) fun _ => ?_
  · rw [refB_k hz.1 ez hna] at told
    cases told
  · refine ⟨List.mem_singleton.mpr rfl, ?_⟩
    walk_at "x"
    refine ⟨_, rfl, fun _ => ?_, fun q => (nomatch q)⟩
    walk_at "x"
    refine ⟨false, rfl, ?_⟩
    exact k _ _ s2
end
end Vi

set_option Elab.async false
set_option linter.all false
set_option autoImplicit false
set_option maxRecDepth 100000
set_option maxHeartbeats 2000000
namespace Vi
open PySem PySem.Spec PyProof.Rows L2
open scoped Classical
local macro_rules | `(tactic| walk_at "x1") => `(tactic| with_reducible first
  | refine x_bin ?_ | refine x_tst ?_ | refine x_oB ?_ | refine x_c ?_ | refine s_seqA ?_ | refine s_seqU ?_ | refine s_seqE ?_ | refine s_seqN ?_ | refine s_asg' ?_ | refine s_if' ?_ | refine s_ret' ?_ | refine s_exp' ?_ | refine s_next ?_ | refine s_retN' ?_ | refine s_sub' ?_
  | refine x_cb ?_ | refine x_cons ?_ | refine x_nil ?_ | refine x_call ?_ | refine x_met ?_ | refine x_un ?_ | refine x_notT ?_ | refine x_andT ?_ | refine x_orT ?_ | refine x_and ?_ | refine x_or ?_ | refine x_not ?_ | refine x_if ?_
  | refine x_tup ?_ | refine x_lst ?_ | refine x_cel ?_ | refine x_sl ?_ | refine x_noP ?_ | refine x_part ?_ | refine x_oI ?_ | refine x_mI ?_ | refine x_rng ?_ | refine x_yes ?_ | refine x_chn ?_ | refine x_fun ?_ | refine x_ok ?_)
local macro_rules | `(tactic| walk_at "x2") => `(tactic| first
  | ((with_reducible refine y_var ?_); refine ⟨_, rfl, ?_⟩)
  | ((with_reducible refine y_some ?_); refine ⟨_, rfl, ?_⟩)
  | ((with_reducible refine y_gP ?_); refine ⟨_, rfl, ?_⟩))
local macro_rules | `(tactic| walk_at "x") => `(tactic| repeat (first | walk_at "x1" | walk_at "x2" ))
local macro_rules | `(tactic| walk_at "nx") => `(tactic| (refine next_k (by assumption) (by assumption) (by first | decide | omega) (by first | decide | omega) ?_))

def okP (z : Str) : Prop := ∀ c ∈ TL.tl z, plainC c = true
def Qt (z : Str) : Prop := z.cps.toList.all plainC = !decide (9 ∈ TL.tl z)
theorem okP_Q {z : Str} (h : okP z) : Qt z := by
  have h1 : z.cps.toList.all plainC = true := List.all_eq_true.mpr fun c m => h c m
  have h2 : 9 ∉ TL.tl z := fun m => absurd (h 9 m) (by decide)
  unfold Qt
  rw [h1, decide_eq_false h2]
  rfl
theorem tab_Q {z : Str} : Qt (z ++ ("\t" : Str)) := by
  have e : TL.tl (z ++ ("\t" : Str)) = TL.tl z ++ [9] := by rw [TL.tl_append]; congr 1
  have h2 : 9 ∈ TL.tl (z ++ ("\t" : Str)) := by rw [e]; simp
  unfold Qt
  rw [decide_eq_true h2]
  cases q : (z ++ ("\t" : Str)).cps.toList.all plainC with
  | false => rfl
  | true => exact absurd (List.all_eq_true.mp q 9 h2) (by decide)
theorem okP_app {x y : Str} (hx : okP x) (hy : okP y) : okP (x ++ y) := fun c m => by
  rw [TL.tl_append] at m
  exact (List.mem_append.mp m).elim (hx c) (hy c)
theorem okP_rep {x : Str} {n : Nat} (hx : okP x) : okP ⟨(List.replicate n x.cps.toList).flatten.toArray⟩ := fun c m => by
  have m : c ∈ (List.replicate n x.cps.toList).flatten := m
  obtain ⟨l, h1, h2⟩ := List.mem_flatten.mp m
  rw [(List.mem_replicate.mp h1).2] at h2
  exact hx c h2
theorem okP_cut {x : Str} {l u : Option Int} (hx : okP x) : okP (cutS x l u) := fun c m => hx c (List.mem_of_mem_drop (List.mem_of_mem_take (show c ∈ (x.cps.toList.drop _).take _ from m)))
theorem okP_lit : okP "needs //a:b " ∧ okP "r" ∧ okP "made\n" ∧ okP "abcdef" := by unfold okP; exact by decide +kernel
theorem pair_pl (a b : Str) : D.pl (.tup [.str a, .str b]) = true ∧ D.sz (.tup [.str a, .str b]) < 12 := by
  constructor
  · simp [D.pl, D.pls]
  · simp [D.sz, D.szs]
theorem told_good {w T : Str} (hw : w = "made" ∨ w = "failed") (hT : Qt T) : toldB w T = ((decide (w = "made") && decide (T.length < 2001) || (decide (T.length < 81) && !decide (10 ∈ TL.tl T))) && !decide (9 ∈ TL.tl T)) := by
  unfold Qt at hT
  have hok : okT T = (decide (T.length ≤ 2000) && !decide (9 ∈ TL.tl T)) := by unfold okT; rw [hT]
  have nfm : ("failed" : Str) ≠ "made" := by decide +kernel
  unfold toldB
  rw [hok]
  rcases hw with rfl | rfl
  · rw [if_pos rfl, decide_eq_true rfl, Bool.true_and]
    rw [Bool.eq_iff_iff]
    simp only [Bool.and_eq_true, Bool.or_eq_true, decide_eq_true_eq, Bool.not_eq_true', decide_eq_false_iff_not]
    constructor
    · rintro ⟨h1, h2⟩; exact ⟨.inl (by omega), h2⟩
    · rintro ⟨h1 | ⟨h1, _⟩, h2⟩
      · exact ⟨by omega, h2⟩
      · exact ⟨by omega, h2⟩
  · rw [if_neg nfm, decide_eq_false nfm, decide_eq_true rfl, Bool.true_and, Bool.false_and, Bool.false_or]
    rw [Bool.eq_iff_iff]
    simp only [Bool.and_eq_true, decide_eq_true_eq, Bool.not_eq_true', decide_eq_false_iff_not]
    constructor
    · rintro ⟨h1, h2, h3, h4⟩; exact ⟨⟨by omega, h1⟩, h4⟩
    · rintro ⟨⟨h1, h2⟩, h3⟩; exact ⟨h2, by omega, by omega, h3⟩
section
variable {t h : Hap} {ns0 : List Int} {P : D → Hap → Prop} {env : Env}
theorem and_k2 {a b : ME} {x y : Bool} (ha : ∀ Q : D → Hap → Prop, Q (.bl x) h → Sat (a env h) Q) (hb : ∀ Q : D → Hap → Prop, Q (.bl y) h → Sat (b env h) Q) (k : P (.bl (x && y)) h) : Sat (mAnd a b env h) P := by
  refine x_and (ha _ ⟨_, rfl, fun e => ?_, fun e => ?_⟩)
  · rw [e, Bool.true_and] at k
    exact hb _ k
  · rw [e, Bool.false_and] at k
    exact k
theorem or_k {a b : ME} {x y : Bool} (ha : ∀ Q : D → Hap → Prop, Q (.bl x) h → Sat (a env h) Q) (hb : ∀ Q : D → Hap → Prop, Q (.bl y) h → Sat (b env h) Q) (k : P (.bl (x || y)) h) : Sat (mOr a b env h) P := by
  refine x_or (ha _ ⟨_, rfl, fun e => ?_, fun e => ?_⟩)
  · rw [e, Bool.true_or] at k
    exact k
  · rw [e, Bool.false_or] at k
    exact hb _ k
theorem law_claim_right_k (hs : St t h) (hn : ns0.length ≤ 63) (k : ∀ t' h', St t' h' → P (.bl true) h') : Sat (Mi.m_law_claim_right [.ref 0, scr ns0] h) P := by
  unfold Mi.m_law_claim_right Mi.b_law_claim_right
  walk_at "x"
  refine ⟨sl_le (by simp), ?_⟩
  walk_at "x"
  walk_at "nx"
  intro r0 h0 a0 b0 s0
  obtain ⟨d, e1, m, _⟩ := atI_ok (xs := [("made" : Str), "failed"].map D.str) a0 b0
  obtain ⟨w, wm, rfl⟩ := List.mem_map.mp m
  have hw : w = "made" ∨ w = "failed" := by simpa using wm
  have hwl : w.length ≤ 6 ∧ 10 ∉ TL.tl w := by rcases hw with rfl | rfl <;> exact ⟨by decide, by decide +kernel⟩
  refine x_some (d := .str w) e1 ?_
  walk_at "x"
  refine ⟨rfl, ?_⟩
  refine x_cons (x_compI (fun pre post h acc => ∃ cs : List Nat, acc = (cs.map ch).map .str ∧ cs.length = pre.length ∧ (∀ c ∈ cs, plainC c = true) ∧ St t h) ?_)
  walk_at "x"
  walk_at "nx"
  intro r1 h1 a1 b1 s1
  walk_at "x"
  refine x_rng1 (by omega) ⟨⟨[], rfl, rfl, fun a m => (nomatch m), s1⟩, fun _ _ _ _ _ _ => trivial, ?_, ?_⟩
  · rintro pre x post h2 acc hx ⟨cs, rfl, hl, hc, s2⟩
    obtain ⟨rfl, hk⟩ := rng_item hx
    refine ⟨_, rfl, x_yes ⟨fun _ => ⟨by rw [List.length_map, List.length_map]; exact Nat.lt_of_lt_of_le (show cs.length < 1000 by omega) (sl_le (by decide)), ?_⟩, fun q => (nomatch q)⟩⟩
    walk_at "x"
    walk_at "nx"
    intro r3 h3 a3 b3 s3
    obtain ⟨n, rfl⟩ : ∃ n : Nat, r3 = 0 + (n : Int) := ⟨r3.toNat, by omega⟩
    obtain ⟨c, ec, sc⟩ := char_x (h := h3) (n := n) (by omega)
    refine x_nil (sc.mono fun d h' q => ?_)
    obtain ⟨rfl, rfl⟩ := q
    refine ⟨cs ++ [c], by simp, by rw [List.length_append, List.length_append, hl]; rfl, fun y m => ?_, s3⟩
    rcases List.mem_append.mp m with m | m
    · exact hc y m
    · rw [List.mem_singleton.mp m, plain_in]
      exact decide_eq_true (List.mem_of_getElem? ec)
  rintro h2 acc ⟨cs, rfl, hl, hc, s2⟩
  have hl : cs.length = (rngL 0 r1.toNat).length := hl
  have hlr : (rngL 0 r1.toNat).length = r1.toNat := by simp [rngL]
  have lc : cs.length ≤ 12 := by omega
  have hsum := sum_le (ys := cs.map ch) (m := 1) fun y m => by
    obtain ⟨c, _, rfl⟩ := List.mem_map.mp m
    exact Nat.le_refl _
  rw [List.length_map] at hsum
  have hse : Str.length "" = 0 := by decide
  refine x_nil (v_join (ys := cs.map ch) rfl (by rw [hse]; omega) ?_)
  have hv : Txt.join "" (cs.map ch) = mkS cs := TL.ext_tl (join_chs cs)
  rw [hv]
  have o1 : okP (mkS cs) := fun c m => hc c (by rw [tl_mkS] at m; exact m)
  have l1 : (mkS cs).length ≤ 12 := by rw [len_mkS]; exact lc
  generalize mkS cs = T1 at *
  obtain ⟨oL1, oL2, oL3, oL4⟩ := okP_lit
  have ll1 : Str.length "needs //a:b " = 12 := by decide
  have ll2 : Str.length "r" = 1 := by decide
  have ll3 : Str.length "made\n" = 5 := by decide
  have ll4 : Str.length "abcdef" = 6 := by decide
  walk_at "x"
  walk_at "nx"
  intro r4 h4 a4 b4 s4
  refine v_muls (x := "needs //a:b ") ⟨by omega, by omega, by rw [ll1, sizeLine_eq]; omega⟩ ?_
  have q1 := len_rep "needs //a:b " r4.toNat
  have o2 := okP_rep (n := r4.toNat) oL1
  rw [ll1] at q1
  generalize (⟨(List.replicate r4.toNat ("needs //a:b " : Str).cps.toList).flatten.toArray⟩ : Str) = T2 at *
  refine v_adds (x := T1) (y := T2) (sl_le (by omega)) ?_
  have o3 := okP_app o1 o2
  have l3 : (T1 ++ T2).length ≤ 240 := by rw [len_app]; omega
  generalize T1 ++ T2 = T3 at *
  walk_at "x"
  refine s_cut (fun e h => ∃ T : Str, okP T ∧ T.length ≤ 240 ∧ e = [some (.ref 0), some (scr ns0), some (.str w), some (.str T), none, none, none, none, none, none] ∧ St t h) ?_ ?_
  · walk_at "x"
    walk_at "nx"
    intro r5 h5 a5 b5 s5
    walk_at "x"
    refine ⟨fun _ => ?_, fun _ => ?_⟩
    · walk_at "x"
      walk_at "nx"
      intro r6 h6 a6 b6 s6
      walk_at "x"
      refine v_muls (x := "r") ⟨by omega, by omega, by rw [ll2, sizeLine_eq]; omega⟩ ?_
      have q2 := len_rep "r" ((79 : Int) + r6).toNat
      rw [ll2] at q2
      exact ⟨_, okP_rep oL2, by rw [q2]; omega, rfl, s6⟩
    · walk_at "x"
      exact ⟨T3, o3, l3, rfl, s5⟩
  rintro e h5 ⟨T4, o4, l4, rfl, s5⟩
  refine s_cut (fun e h => ∃ T : Str, okP T ∧ T.length ≤ 2001 ∧ e = [some (.ref 0), some (scr ns0), some (.str w), some (.str T), none, none, none, none, none, none] ∧ St t h) ?_ ?_
  · walk_at "x"
    walk_at "nx"
    intro r6 h6 a6 b6 s6
    walk_at "x"
    refine ⟨fun _ => ?_, fun _ => ?_⟩
    · walk_at "x"
      have q2 := len_rep "made\n" ((399 : Int)).toNat
      have o5 := okP_rep (n := ((399 : Int)).toNat) oL3
      rw [ll3] at q2
      generalize (⟨(List.replicate ((399 : Int)).toNat ("made\n" : Str).cps.toList).flatten.toArray⟩ : Str) = T5 at *
      have q2 : T5.length = 1995 := q2
      walk_at "x"
      walk_at "nx"
      intro r7 h7 a7 b7 s7
      walk_at "x"
      have c1 := len_cutS "abcdef" none (some ((4 : Int) + r7))
      rw [ll4] at c1
      refine v_adds (x := T5) (sl_le (by omega)) ?_
      exact ⟨_, okP_app o5 (okP_cut oL4), by rw [len_app]; omega, rfl, s7⟩
    · walk_at "x"
      exact ⟨T4, o4, by omega, rfl, s6⟩
  rintro e h6 ⟨T5, o5, l5, rfl, s6⟩
  refine s_cut (fun e h => ∃ T : Str, Qt T ∧ T.length ≤ 2002 ∧ e = [some (.ref 0), some (scr ns0), some (.str w), some (.str T), none, none, none, none, none, none] ∧ St t h) ?_ ?_
  · walk_at "x"
    walk_at "nx"
    intro r7 h7 a7 b7 s7
    walk_at "x"
    refine ⟨fun _ => ?_, fun _ => ?_⟩
    · walk_at "x"
      have lt : Str.length "\t" = 1 := by decide
      refine v_adds (x := T5) (sl_le (by rw [lt]; omega)) ?_
      exact ⟨_, tab_Q, by rw [len_app, lt]; omega, rfl, s7⟩
    · walk_at "x"
      exact ⟨T5, okP_Q o5, by omega, rfl, s7⟩
  rintro e h7 ⟨T, hQ, lT, rfl, s7⟩
  have ln1 : NL.length = 1 := by decide
  have hin : ∀ (c : Nat) (y : Str) (h : Hap), y = ch c → dNotIn (.str y) (.str T) h = some (.bl (!decide (c ∈ TL.tl T))) := fun c y h e => by rw [e]; rfl
  have e9 : ("\t" : Str) = ch 9 := by decide +kernel
  have e10 : ("\n" : Str) = ch 10 := by decide +kernel
  have tg := told_good hw hQ
  walk_at "x"
  refine v_adds (x := w) (y := NL) (sl_le (by rw [ln1]; omega)) ?_
  walk_at "x"
  refine v_adds (x := w ++ NL) (y := T) (sl_le (by rw [len_app, ln1]; omega)) ?_
  have hEq : ∀ (env : Env) (h : Hap) (Q : D → Hap → Prop), env[2]? = some (some (.str w)) → Q (.bl (decide (w = "made"))) h → Sat (mBin dEq (mVar 2) (mC (.str "made")) env h) Q := fun env h Q e q => x_bin (x_var e (x_c (x_some (d := .bl (decide (w = "made"))) rfl q)))
  have hLt : ∀ (n : Nat) (env : Env) (h : Hap) (Q : D → Hap → Prop), env[3]? = some (some (.str T)) → Q (.bl (decide (T.length < n))) h → Sat (mBin dLt (mCB dLen (mCons (mVar 3) mNil)) (mC (.int (n : Int))) env h) Q := fun n env h Q e q => x_bin (x_cb (x_cons (x_var e (x_nil (v_lens (x := T) (sl_le (by omega)) (x_c (x_some (d := .bl (decide (T.length < n))) (by
    show some (D.bl (decide ((T.length : Int) < (n : Int)))) = _
    rw [show decide ((T.length : Int) < (n : Int)) = decide (T.length < n) from decide_eq_decide.mpr (by omega)]) q)))))))
  have hIn : ∀ (c : Nat) (y : Str) (env : Env) (h : Hap) (Q : D → Hap → Prop), y = ch c → env[3]? = some (some (.str T)) → Q (.bl (!decide (c ∈ TL.tl T))) h → Sat (mBin dNotIn (mC (.str y)) (mVar 3) env h) Q := fun c y env h Q ey e q => x_bin (x_c (x_var e (x_some (hin c y h ey) q)))
  dsimp only
  refine s_seq (s_asg' (or_k (x := decide (w = "made") && decide (T.length < 2001)) (y := decide (T.length < 105) && !decide (10 ∈ TL.tl T)) (fun Q q => and_k2 (fun Q q => hEq _ _ Q rfl q) (fun Q q => hLt 2001 _ _ Q rfl q) q) (fun Q q => and_k2 (fun Q q => hLt 105 _ _ Q rfl q) (fun Q q => hIn 10 _ _ _ Q e10 rfl q) q) ?_))
  generalize (decide (w = "made") && decide (T.length < 2001) || (decide (T.length < 105) && !decide (10 ∈ TL.tl T))) = Rr
  have go : ∀ x5, SatS ((mSeq (mAsg (mOr (mAnd (mBin dEq (mVar 2) (mC (.str "made"))) (mBin dLt (mCB dLen (mCons (mVar 3) mNil)) (mC (.int 2001)))) (mAnd (mBin dLt (mCB dLen (mCons (mVar 3) mNil)) (mC (.int 81))) (mBin dNotIn (mC (.str "\n")) (mVar 3)))) (gNm 6))
    (mSeq (mAsg (mAnd (mVar 6) (mBin dNotIn (mC (.str "\t")) (mVar 3))) (gNm 6))
    (mSeq (mTryAs ["BadMessage"] [] 8 (mAsg (mCall Mi.m_read_claim (mCons (mVar 4) mNil)) (gNm 7)) (fun _ fs => (mRet (mAnd (mNot (mVar 6)) (mC (.bl true))))))
    (mRet (mAnd (mVar 6) (mCall Mi.m_law_same (mCons (mVar 7) (mCons (mTup (mCons (mVar 2) (mCons (mVar 3) mNil))) mNil))))))))
    [some (.ref 0), some (scr ns0), some (.str w), some (.str T), some (.str (w ++ NL ++ T)), x5, none, none, none, none] h7) ⟨fun _ h => P .non h, P, fun _ _ => False, fun _ _ => False⟩ := fun x5 => by
    refine s_seq (s_asg' (or_k (x := decide (w = "made") && decide (T.length < 2001)) (y := decide (T.length < 81) && !decide (10 ∈ TL.tl T)) (fun Q q => and_k2 (fun Q q => hEq _ _ Q rfl q) (fun Q q => hLt 2001 _ _ Q rfl q) q) (fun Q q => and_k2 (fun Q q => hLt 81 _ _ Q rfl q) (fun Q q => hIn 10 _ _ _ Q e10 rfl q) q) ?_))
    refine s_seq (s_asg' (and_k2 (x := (decide (w = "made") && decide (T.length < 2001) || (decide (T.length < 81) && !decide (10 ∈ TL.tl T)))) (y := !decide (9 ∈ TL.tl T)) (fun Q q => x_var rfl q) (fun Q q => hIn 9 _ _ _ Q e9 rfl q) ?_))
    rw [← tg]
    have hp := TL.partition_app (y := NL) (b := T) tl_nl hwl.2
    refine s_seq (X.tryAs (X.set ?_))
    walk_at "x"
    refine read_claim_k (by rw [len_app, len_app, ln1]; omega) (fun a b ez hna told => ?_) fun hno => ?_
    · have e2 := TL.partition_app (y := NL) (b := b) tl_nl hna
      rw [← ez, hp] at e2
      have ea : a = w := (Prod.mk.inj e2).1.symm
      have eb : b = T := (Prod.mk.inj (Prod.mk.inj e2).2).2.symm
      subst ea eb
      rw [told]
      walk_at "x"
      refine ⟨_, rfl, fun _ => ?_, fun q => nomatch q⟩
      walk_at "x"
      refine ⟨sl_le (show 2 ≤ 16777216 by decide), ?_⟩
      walk_at "x"
      have pp := pair_pl a b
      have pp1 := pp.1
      have pp2 := pp.2
      clear pp
      generalize D.tup [D.str a, D.str b] = dd at pp1 pp2 ⊢
      with_reducible refine same_k pp2 pp1 pp1 ?_
      rw [decide_eq_true rfl]
      exact k _ _ s7
    · have ef : toldB w T = false := by
        rcases hno with hno | ⟨a, b, ez, hna, e⟩
        · exact absurd (by rw [TL.tl_append, TL.tl_append, tl_nl]; simp) hno
        · have e2 := TL.partition_app (y := NL) (b := b) tl_nl hna
          rw [← ez, hp] at e2
          have ea : a = w := (Prod.mk.inj e2).1.symm
          have eb : b = T := (Prod.mk.inj (Prod.mk.inj e2).2).2.symm
          subst ea eb
          exact e
      rw [ef]
      refine ⟨List.mem_singleton.mpr rfl, ?_⟩
      walk_at "x"
      refine ⟨false, rfl, ⟨true, rfl, fun _ => ?_, fun q => (nomatch q)⟩⟩
      walk_at "x"
      exact k _ _ s7
  dsimp only
  refine s_seq ?_
  walk_at "x"
  refine ⟨fun _ => ?_, fun _ => ⟨fun q => (nomatch q), fun _ => ?_⟩⟩
  · walk_at "x"
    refine ⟨fun _ => ?_, fun _ => ⟨fun q => (nomatch q), fun _ => ?_⟩⟩
    · walk_at "x"
      refine ⟨sl_le (show 2 ≤ 16777216 by decide), ?_⟩
      walk_at "x"
      refine claim_text_k (by omega) ?_
      walk_at "x"
      have pz : D.pl (.str (w ++ NL ++ T)) = true := rfl
      have sz : D.sz (.str (w ++ NL ++ T)) < 12 := show 0 < 12 by decide
      with_reducible refine same_k sz pz pz ?_
      have er : decide (D.str (w ++ NL ++ T) = D.str (w ++ NL ++ T)) = true := decide_eq_true rfl
      rw [er]
      refine x_some (d := true) rfl ?_
      refine ⟨fun q => (nomatch q), fun _ => ?_⟩
      exact go _
    · exact go _
  · exact go _
end
end Vi

set_option Elab.async false
set_option linter.all false
set_option autoImplicit false
set_option maxRecDepth 100000
set_option maxHeartbeats 2000000
namespace Vi
open PySem PySem.Spec PyProof.Rows L2
open scoped Classical
local macro_rules | `(tactic| walk_at "x1") => `(tactic| with_reducible first
  | refine x_bin ?_ | refine x_tst ?_ | refine x_oB ?_ | refine x_c ?_ | refine s_seqA ?_ | refine s_seqU ?_ | refine s_seqE ?_ | refine s_seqN ?_ | refine s_asg' ?_ | refine s_if' ?_ | refine s_ret' ?_ | refine s_exp' ?_ | refine s_next ?_ | refine s_retN' ?_ | refine s_sub' ?_
  | refine x_cb ?_ | refine x_cons ?_ | refine x_nil ?_ | refine x_call ?_ | refine x_met ?_ | refine x_un ?_ | refine x_notT ?_ | refine x_andT ?_ | refine x_orT ?_ | refine x_and ?_ | refine x_or ?_ | refine x_not ?_ | refine x_if ?_
  | refine x_tup ?_ | refine x_lst ?_ | refine x_cel ?_ | refine x_sl ?_ | refine x_noP ?_ | refine x_part ?_ | refine x_oI ?_ | refine x_mI ?_ | refine x_rng ?_ | refine x_yes ?_ | refine x_chn ?_ | refine x_fun ?_ | refine x_ok ?_)
local macro_rules | `(tactic| walk_at "x2") => `(tactic| first
  | ((with_reducible refine y_var ?_); refine ⟨_, rfl, ?_⟩)
  | ((with_reducible refine y_some ?_); refine ⟨_, rfl, ?_⟩)
  | ((with_reducible refine y_gP ?_); refine ⟨_, rfl, ?_⟩))
local macro_rules | `(tactic| walk_at "x") => `(tactic| repeat (first | walk_at "x1" | walk_at "x2" ))
local macro_rules | `(tactic| walk_at "nx") => `(tactic| (refine next_k (by assumption) (by assumption) (by first | decide | omega) (by first | decide | omega) ?_))

theorem k73_main (ns : List Int) (hn : ns.length ≤ 63) : ∃ h, Mi.m_law_10 [scr ns] [] = .ok (.bl true) h := by
  suffices h : Sat (Mi.m_law_10 [scr ns] []) fun d _ => d = .bl true by
    obtain ⟨a, h, e, q⟩ := h.ex
    exact ⟨h, by rw [e, q]⟩
  unfold Mi.m_law_10 Mi.b_law_10
  walk_at "x"
  refine ⟨sl_le (by decide), ?_⟩
  have s0 : St [] [stc 0 0 1] := ⟨0, 0, 1, rfl, by decide, by decide, by decide⟩
  walk_at "x"
  refine s_seq (s_forI (fun pre post e h => ∃ x2, e = [some (scr ns), some (.ref 0), x2] ∧ ∃ t, St t h) ?_)
  walk_at "x"
  refine ⟨⟨_, rfl, [], s0⟩, fun _ _ _ _ _ _ => trivial, ?_, ?_⟩
  · rintro pre x post e h hx ⟨x2, rfl, t, s1⟩
    refine ⟨_, rfl, ?_⟩
    walk_at "x"
    refine law_key_right_k s1 hn fun t2 h2 s2 => ?_
    walk_at "x"
    refine ⟨fun q => (nomatch q), fun _ => ?_⟩
    walk_at "x"
    refine law_claim_right_k s2 hn fun t3 h3 s3 => ?_
    walk_at "x"
    refine ⟨fun q => (nomatch q), fun _ => ?_⟩
    walk_at "x"
    refine law_claim_refused_k s3 hn fun t4 h4 s4 => ?_
    walk_at "x"
    refine ⟨fun q => (nomatch q), fun _ => ?_⟩
    walk_at "x"
    exact ⟨_, rfl, t4, s4⟩
  · rintro e h ⟨x2, rfl, t, s1⟩
    walk_at "x"
    rfl
end Vi

set_option Elab.async false
set_option linter.all false
set_option autoImplicit false
set_option maxRecDepth 100000
set_option maxHeartbeats 4000000
namespace L73
open PySem PySem.Spec PyProof.Rows L2 Vi
noncomputable section
def top (i : Nat) : Stmt := PySem.Challenge.pw_truemill_k73_keys_and_claims_of_all_word.main.body.getD i (.Pass ⟨0, 0, 0, 0⟩)
abbrev s_word_at : Stmt := top 14
abbrev N_word_at : List Str := ["text", "at", "end"]
theorem sc_word_at : FnScope N_word_at ["text", "at"] (defScope s_word_at) := ⟨rfl, rfl, rfl, by decide +kernel, rfl, by decide +kernel, by decide +kernel⟩
abbrev s_quoted_token : Stmt := top 16
abbrev N_quoted_token : List Str := ["value", "at", "end"]
theorem sc_quoted_token : FnScope N_quoted_token ["value", "at", "end"] (defScope s_quoted_token) := ⟨rfl, rfl, rfl, by decide +kernel, rfl, by decide +kernel, by decide +kernel⟩
abbrev s_is_numeral : Stmt := top 19
abbrev N_is_numeral : List Str := ["text", "most", "sign"]
theorem sc_is_numeral : FnScope N_is_numeral ["text", "most"] (defScope s_is_numeral) := ⟨rfl, rfl, rfl, by decide +kernel, rfl, by decide +kernel, by decide +kernel⟩
abbrev s_is_plain : Stmt := top 24
abbrev N_is_plain : List Str := ["sign", "code"]
theorem sc_is_plain : FnScope N_is_plain ["sign"] (defScope s_is_plain) := ⟨rfl, rfl, rfl, by decide +kernel, rfl, by decide +kernel, by decide +kernel⟩
abbrev s_key_text : Stmt := top 31
abbrev N_key_text : List Str := ["key", "tool", "args", "names", "lines", "arg", "name", "line"]
theorem sc_key_text : FnScope N_key_text ["key"] (defScope s_key_text) := ⟨rfl, rfl, rfl, by decide +kernel, rfl, by decide +kernel, by decide +kernel⟩
abbrev s_claim_text : Stmt := top 38
abbrev N_claim_text : List Str := ["result", "kind", "told"]
theorem sc_claim_text : FnScope N_claim_text ["result"] (defScope s_claim_text) := ⟨rfl, rfl, rfl, by decide +kernel, rfl, by decide +kernel, by decide +kernel⟩
abbrev s_law_next : Stmt := top 42
abbrev N_law_next : List Str := ["state", "script", "many", "answer", "cell"]
theorem sc_law_next : FnScope N_law_next ["state", "script", "many"] (defScope s_law_next) := ⟨rfl, rfl, rfl, by decide +kernel, rfl, by decide +kernel, by decide +kernel⟩
abbrev s_law_char : Stmt := top 44
abbrev N_law_char : List Str := ["number", "chars"]
theorem sc_law_char : FnScope N_law_char ["number"] (defScope s_law_char) := ⟨rfl, rfl, rfl, by decide +kernel, rfl, by decide +kernel, by decide +kernel⟩
abbrev s_law_reserved : Stmt := top 45
abbrev N_law_reserved : List Str := ["words"]
theorem sc_law_reserved : FnScope N_law_reserved [] (defScope s_law_reserved) := ⟨rfl, rfl, rfl, by decide +kernel, rfl, by decide +kernel, by decide +kernel⟩
abbrev s_law_is_word : Stmt := top 47
abbrev N_law_is_word : List Str := ["word", "letters", "letter"]
theorem sc_law_is_word : FnScope N_law_is_word ["word"] (defScope s_law_is_word) := ⟨rfl, rfl, rfl, by decide +kernel, rfl, by decide +kernel, by decide +kernel⟩
abbrev s_quoted_at : Stmt := top 15
abbrev N_quoted_at : List Str := ["text", "at", "value", "end"]
theorem sc_quoted_at : FnScope N_quoted_at ["text", "at"] (defScope s_quoted_at) := ⟨rfl, rfl, rfl, by decide +kernel, rfl, by decide +kernel, by decide +kernel⟩
abbrev s_text_fault : Stmt := top 23
abbrev N_text_fault : List Str := ["text", "sign"]
theorem sc_text_fault : FnScope N_text_fault ["text"] (defScope s_text_fault) := ⟨rfl, rfl, rfl, by decide +kernel, rfl, by decide +kernel, by decide +kernel⟩
abbrev s_is_name : Stmt := top 37
abbrev N_is_name : List Str := ["text"]
theorem sc_is_name : FnScope N_is_name ["text"] (defScope s_is_name) := ⟨rfl, rfl, rfl, by decide +kernel, rfl, by decide +kernel, by decide +kernel⟩
abbrev s_law_drawn_tool : Stmt := top 46
abbrev N_law_drawn_tool : List Str := ["state", "script", "choice", "word", "at"]
theorem sc_law_drawn_tool : FnScope N_law_drawn_tool ["state", "script"] (defScope s_law_drawn_tool) := ⟨rfl, rfl, rfl, by decide +kernel, rfl, by decide +kernel, by decide +kernel⟩
abbrev s_law_turned : Stmt := top 49
abbrev N_law_turned : List Str := ["state", "script", "tool", "lines", "choice", "rows", "text", "line"]
theorem sc_law_turned : FnScope N_law_turned ["state", "script", "tool", "lines"] (defScope s_law_turned) := ⟨rfl, rfl, rfl, by decide +kernel, rfl, by decide +kernel, by decide +kernel⟩
abbrev s_token_at : Stmt := top 13
abbrev N_token_at : List Str := ["text", "at"]
theorem sc_token_at : FnScope N_token_at ["text", "at"] (defScope s_token_at) := ⟨rfl, rfl, rfl, by decide +kernel, rfl, by decide +kernel, by decide +kernel⟩
abbrev s_is_short : Stmt := top 35
abbrev N_is_short : List Str := ["text", "most"]
theorem sc_is_short : FnScope N_is_short ["text", "most"] (defScope s_is_short) := ⟨rfl, rfl, rfl, by decide +kernel, rfl, by decide +kernel, by decide +kernel⟩
abbrev s_are_names : Stmt := top 36
abbrev N_are_names : List Str := ["names", "name"]
theorem sc_are_names : FnScope N_are_names ["names"] (defScope s_are_names) := ⟨rfl, rfl, rfl, by decide +kernel, rfl, by decide +kernel, by decide +kernel⟩
abbrev s_tokens : Stmt := top 12
abbrev N_tokens : List Str := ["text", "found", "at", "line", "line_start", "kind", "value", "end"]
theorem sc_tokens : FnScope N_tokens ["text"] (defScope s_tokens) := ⟨rfl, rfl, rfl, by decide +kernel, rfl, by decide +kernel, by decide +kernel⟩
abbrev s_are_args : Stmt := top 34
abbrev N_are_args : List Str := ["args", "arg"]
theorem sc_are_args : FnScope N_are_args ["args"] (defScope s_are_args) := ⟨rfl, rfl, rfl, by decide +kernel, rfl, by decide +kernel, by decide +kernel⟩
abbrev s_is_told : Stmt := top 40
abbrev N_is_told : List Str := ["kind", "told"]
theorem sc_is_told : FnScope N_is_told ["kind", "told"] (defScope s_is_told) := ⟨rfl, rfl, rfl, by decide +kernel, rfl, by decide +kernel, by decide +kernel⟩
abbrev s_is_word : Stmt := top 33
abbrev N_is_word : List Str := ["text"]
theorem sc_is_word : FnScope N_is_word ["text"] (defScope s_is_word) := ⟨rfl, rfl, rfl, by decide +kernel, rfl, by decide +kernel, by decide +kernel⟩
abbrev s_read_claim : Stmt := top 39
abbrev N_read_claim : List Str := ["text", "kind", "newline", "told"]
theorem sc_read_claim : FnScope N_read_claim ["text"] (defScope s_read_claim) := ⟨rfl, rfl, rfl, by decide +kernel, rfl, by decide +kernel, by decide +kernel⟩
abbrev s_read_key : Stmt := top 32
abbrev N_read_key : List Str := ["text", "lines", "tool", "args", "digits", "key", "line", "name"]
theorem sc_read_key : FnScope N_read_key ["text"] (defScope s_read_key) := ⟨rfl, rfl, rfl, by decide +kernel, rfl, by decide +kernel, by decide +kernel⟩
abbrev s_law_claim_refused : Stmt := top 52
abbrev N_law_claim_refused : List Str := ["state", "script", "word", "at", "ways", "problem"]
theorem sc_law_claim_refused : FnScope N_law_claim_refused ["state", "script"] (defScope s_law_claim_refused) := ⟨rfl, rfl, rfl, by decide +kernel, rfl, by decide +kernel, by decide +kernel⟩
abbrev s_law_told : Stmt := top 48
abbrev N_law_told : List Str := ["text", "found", "problem"]
theorem sc_law_told : FnScope N_law_told ["text"] (defScope s_law_told) := ⟨rfl, rfl, rfl, by decide +kernel, rfl, by decide +kernel, by decide +kernel⟩
abbrev s_law_same : Stmt := top 43
abbrev N_law_same : List Str := ["actual", "due", "k"]
theorem sc_law_same : FnScope N_law_same ["actual", "due"] (defScope s_law_same) := ⟨rfl, rfl, rfl, by decide +kernel, rfl, by decide +kernel, by decide +kernel⟩
abbrev s_law_key_right : Stmt := top 50
abbrev N_law_key_right : List Str := ["state", "script", "tool", "many", "args", "names", "lines", "text", "good", "told", "k", "arg", "name", "line"]
theorem sc_law_key_right : FnScope N_law_key_right ["state", "script"] (defScope s_law_key_right) := ⟨rfl, rfl, rfl, by decide +kernel, rfl, by decide +kernel, by decide +kernel⟩
abbrev s_law_claim_right : Stmt := top 51
abbrev N_law_claim_right : List Str := ["state", "script", "word", "text", "whole", "result", "good", "actual", "problem", "k"]
theorem sc_law_claim_right : FnScope N_law_claim_right ["state", "script"] (defScope s_law_claim_right) := ⟨rfl, rfl, rfl, by decide +kernel, rfl, by decide +kernel, by decide +kernel⟩
abbrev s_law : Stmt := top 53
abbrev N_law : List Str := ["script", "state", "turn"]
theorem sc_law : FnScope N_law ["script"] (defScope s_law) := ⟨rfl, rfl, rfl, by decide +kernel, rfl, by decide +kernel, by decide +kernel⟩
structure Txt (wd : World) (K : PySem.W.Frag) (mg : Str → Option Value) : Prop where
  h_word_at : Has K mg "word_at" s_word_at ["text", "at"]
  h_quoted_token : Has K mg "quoted_token" s_quoted_token ["value", "at", "end"]
  h_is_numeral : Has K mg "is_numeral" s_is_numeral ["text", "most"]
  h_is_plain : Has K mg "is_plain" s_is_plain ["sign"]
  h_key_text : Has K mg "key_text" s_key_text ["key"]
  h_claim_text : Has K mg "claim_text" s_claim_text ["result"]
  h_law_next : Has K mg "_law_next" s_law_next ["state", "script", "many"]
  h_law_char : Has K mg "_law_char" s_law_char ["number"]
  h_law_reserved : Has K mg "_law_reserved" s_law_reserved []
  h_law_is_word : Has K mg "_law_is_word" s_law_is_word ["word"]
  h_quoted_at : Has K mg "quoted_at" s_quoted_at ["text", "at"]
  h_text_fault : Has K mg "text_fault" s_text_fault ["text"]
  h_is_name : Has K mg "is_name" s_is_name ["text"]
  h_law_drawn_tool : Has K mg "_law_drawn_tool" s_law_drawn_tool ["state", "script"]
  h_law_turned : Has K mg "_law_turned" s_law_turned ["state", "script", "tool", "lines"]
  h_token_at : Has K mg "token_at" s_token_at ["text", "at"]
  h_is_short : Has K mg "is_short" s_is_short ["text", "most"]
  h_are_names : Has K mg "are_names" s_are_names ["names"]
  h_tokens : Has K mg "tokens" s_tokens ["text"]
  h_are_args : Has K mg "are_args" s_are_args ["args"]
  h_is_told : Has K mg "is_told" s_is_told ["kind", "told"]
  h_is_word : Has K mg "is_word" s_is_word ["text"]
  h_read_claim : Has K mg "read_claim" s_read_claim ["text"]
  h_read_key : Has K mg "read_key" s_read_key ["text"]
  h_law_claim_refused : Has K mg "_law_claim_refused" s_law_claim_refused ["state", "script"]
  h_law_told : Has K mg "_law_told" s_law_told ["text"]
  h_law_same : Has K mg "_law_same" s_law_same ["actual", "due"]
  h_law_key_right : Has K mg "_law_key_right" s_law_key_right ["state", "script"]
  h_law_claim_right : Has K mg "_law_claim_right" s_law_claim_right ["state", "script"]
  b_abs : mg "abs" = none
  b_all : mg "all" = none
  b_bool : mg "bool" = none
  b_int : mg "int" = none
  b_isinstance : mg "isinstance" = none
  b_len : mg "len" = none
  b_list : mg "list" = none
  b_ord : mg "ord" = none
  b_range : mg "range" = none
  b_str : mg "str" = none
  b_tuple : mg "tuple" = none
  g_LONG_SIGNS : ∃ a, mg "LONG_SIGNS" = some (.ref a) ∧ KTup K a ((["==", "!="] : List Str).map V.str)
  g_ESCAPES : ∃ a, mg "ESCAPES" = some (.ref a) ∧ KDt K wd a ([("\"", "\""), ("\\", "\\"), ("n", "\n")] : List (Str × Str))
  g_DIGITS : ∃ t, mg "DIGITS" = some (.str "0123456789" t)
  g_LONGEST_ARG : ∃ t, mg "LONGEST_ARG" = some (.int 60 t)
  g_LONGEST_REASON : ∃ t, mg "LONGEST_REASON" = some (.int 80 t)
  g_LONGEST_TEXT : ∃ t, mg "LONGEST_TEXT" = some (.int 2000 t)
  g_LONGEST_VALUE : ∃ t, mg "LONGEST_VALUE" = some (.int 100 t)
  g_LONGEST_WORD : ∃ t, mg "LONGEST_WORD" = some (.int 20 t)
  g_MOST_ARGS : ∃ t, mg "MOST_ARGS" = some (.int 12 t)
  g_MOST_DIGITS : ∃ t, mg "MOST_DIGITS" = some (.int 5 t)
  g_MOST_NAMES : ∃ t, mg "MOST_NAMES" = some (.int 24 t)
  g_PERCENT : ∃ t, mg "PERCENT" = some (.int 37 t)
  g_SIGNS : ∃ t, mg "SIGNS" = some (.str "{}[](),;=+" t)
  g_WORD_SIGNS : ∃ t, mg "WORD_SIGNS" = some (.str "abcdefghijklmnopqrstuvwxyz0123456789_" t)
  g_WORD_STARTS : ∃ t, mg "WORD_STARTS" = some (.str "abcdefghijklmnopqrstuvwxyz" t)
  e_BadMessage : ∃ C, mg "BadMessage" = some (.ref C) ∧ ExK K C
  q_BadMessage : ∃ C, mg "BadMessage" = some (.ref C) ∧ ExQ K C
  k_BadMessage : Cat K mg "BadMessage" ["BadMessage"] []
  i_BadMessage_BadText : ∀ {C}, mg "BadMessage" = some (.ref C) → ∃ D, mg "BadText" = some (.ref D) ∧ PySem.W.kitOne K (.ref C) (.ref D) = some false
  i_BadMessage_MillError : ∀ {C}, mg "BadMessage" = some (.ref C) → ∃ D, mg "MillError" = some (.ref D) ∧ PySem.W.kitOne K (.ref C) (.ref D) = some true
section
variable {P : Program} {wd : World} {K : PySem.W.Frag} {mg : Str → Option Value} {base : Heap}
theorem ok_word_at (T : Txt wd K mg) : OkF P wd K mg base "word_at" 1 2 Mi.m_word_at := OkF.mk' (k := 0) (b := Mi.b_word_at) T.h_word_at sc_word_at rfl rfl rfl fun f cdv A outer s H E hr =>
  (ss_cons (s_set (i := 2) sc_word_at.nd rfl (.inl rfl) (e_var (i := 1) rfl (.inl rfl)))
    (ss_cons (s_wh 100000 (passes_of rfl) (c_w (w_and (c_cmp o_lt s_cmp (e_var (i := 2) rfl (.inl rfl)) (e_cb call_len s_len rfl T.b_len bl_len (a_cons (e_var (i := 0) rfl (.inl rfl)) a_nil)) (nomark _)) (w_and1 (c_cmp o_in s_in (e_ix (e_var (i := 0) rfl (.inl rfl)) (e_var (i := 2) rfl (.inl rfl)) (fun _ _ => rfl)) (e_gstr T.g_WORD_SIGNS rfl) rfl)))) (ss_one (s_aug (i := 2) sc_word_at.nd rfl (.inl rfl) ip_add i_add e_int)))
    (ss_cons (s_if (c_cmp o_gt s_cmp (e_bin op_sub s_sub (e_var (i := 2) rfl (.inl rfl)) (e_var (i := 1) rfl (.inl rfl))) (e_gint T.g_LONGEST_WORD rfl) (nomark _)) (ss_one (s_ret (e_tup (a_cons e_str (a_cons e_str (a_cons (e_var (i := 1) rfl (.inl rfl)) a_nil)))))) ss_nil)
    (ss_one (s_ret (e_tup (a_cons e_str (a_cons (e_sl (e_var (i := 0) rfl (.inl rfl)) (o_some (e_var (i := 1) rfl (.inl rfl))) (o_some (e_var (i := 2) rfl (.inl rfl)))) (a_cons (e_var (i := 2) rfl (.inl rfl)) a_nil)))))))))
theorem ok_quoted_token (T : Txt wd K mg) : OkF P wd K mg base "quoted_token" 1 3 Mi.m_quoted_token := OkF.mk' (k := 0) (b := Mi.b_quoted_token) T.h_quoted_token sc_quoted_token rfl rfl rfl fun f cdv A outer s H E hr =>
  (ss_cons (s_if (c_cmp o_gt s_cmp (e_cb call_len s_len rfl T.b_len bl_len (a_cons (e_var (i := 0) rfl (.inl rfl)) a_nil)) (e_gint T.g_LONGEST_VALUE rfl) (nomark _)) (ss_one (s_ret (e_tup (a_cons e_str (a_cons e_str (a_cons (e_var (i := 1) rfl (.inl rfl)) a_nil)))))) ss_nil)
    (ss_one (s_ret (e_tup (a_cons e_str (a_cons (e_var (i := 0) rfl (.inl rfl)) (a_cons (e_var (i := 2) rfl (.inl rfl)) a_nil)))))))
theorem ok_is_numeral (T : Txt wd K mg) : OkF P wd K mg base "is_numeral" 1 2 Mi.m_is_numeral := OkF.mk' (k := 0) (b := Mi.b_is_numeral) T.h_is_numeral sc_is_numeral rfl rfl rfl fun f cdv A outer s H E hr =>
  (ss_cons (s_if (c_w (w_or (c_cmp (o_eq hr.units) s_eq (e_var (i := 0) rfl (.inl rfl)) e_str (nomark _)) (w_or1 (c_cmp o_gt s_cmp (e_cb call_len s_len rfl T.b_len bl_len (a_cons (e_var (i := 0) rfl (.inl rfl)) a_nil)) (e_var (i := 1) rfl (.inl rfl)) (nomark _))))) (ss_one (s_ret e_bl)) ss_nil)
    (ss_cons (s_if (c_cmp (o_eq hr.units) s_eq (e_ix (e_var (i := 0) rfl (.inl rfl)) e_int (fun _ _ => rfl)) e_str (nomark _)) (ss_one (s_ret (e_cmp (o_eq hr.units) s_eq (e_var (i := 0) rfl (.inl rfl)) e_str (nomark _)))) ss_nil)
    (ss_one (s_ret (e_cb (cr_all rfl) s_all rfl T.b_all bl_all (a_cons (e_comp (own := [("sign", 2)]) rfl sc_is_numeral.nd (blkOk_by (own := [("sign", 2)]) (N := N_is_numeral) (sc := defScope s_is_numeral) (by decide +kernel)) (by decide) (g_nm 2) (i_any (e_var (i := 0) rfl (.inl rfl))) (fun _ _ _ _ _ => (pg_name (i := 2) sc_is_numeral.nd rfl (by exact .inl rfl))) (fun _ _ _ _ _ => ts_nil) (fun _ _ _ _ _ => (e_cmp o_in s_in (e_var (i := 2) rfl (by exact .inl rfl)) (e_gstr T.g_DIGITS rfl) rfl))) a_nil))))))
theorem ok_is_plain (T : Txt wd K mg) : OkF P wd K mg base "is_plain" 1 1 Mi.m_is_plain := OkF.mk' (k := 0) (b := Mi.b_is_plain) T.h_is_plain sc_is_plain rfl rfl rfl fun f cdv A outer s H E hr =>
  (ss_cons (s_set (i := 1) sc_is_plain.nd rfl (.inl rfl) (e_cb call_ord s_ord rfl T.b_ord bl_ord (a_cons (e_var (i := 0) rfl (.inl rfl)) a_nil)))
    (ss_one (s_ret (e_or (e_cmp (o_eq hr.units) s_eq (e_var (i := 0) rfl (.inl rfl)) e_str (nomark _)) (e_one (e_and (e_chn o_le s_cmp o_le s_cmp e_int (e_var (i := 1) rfl (.inl rfl)) e_int) (e_one (e_cmp (o_ne hr.units) s_ne (e_var (i := 1) rfl (.inl rfl)) (e_gint T.g_PERCENT rfl) (nomark _)))))))))
theorem ok_key_text (T : Txt wd K mg) : OkF P wd K mg base "key_text" 1 1 Mi.m_key_text := OkF.mk' (k := 0) (b := Mi.b_key_text) T.h_key_text sc_key_text rfl rfl rfl fun f cdv A outer s H E hr =>
  (ss_cons (s_asg (pg_tup rfl (pgs_cons (pg_name (i := 1) sc_key_text.nd rfl (.inl rfl)) (pgs_cons (pg_name (i := 2) sc_key_text.nd rfl (.inl rfl)) (pgs_cons (pg_name (i := 3) sc_key_text.nd rfl (.inl rfl)) pgs_nil)))) (g_tp (gs_cons (g_nm 1) (gs_cons (g_nm 2) (gs_cons (g_nm 3) gs_nil)))) (e_var (i := 0) rfl (.inl rfl)))
    (ss_cons (s_set (i := 4) sc_key_text.nd rfl (.inl rfl) (e_cel (a_cons (e_var (i := 1) rfl (.inl rfl)) a_nil)))
    (ss_cons (s_exp (e_met PySem.F.plainAttrs_list PySem.F.slot_list_extend PySem.F.type_list_extend mt_extend s_extend (e_var (i := 4) rfl (.inl rfl)) (a_cons (e_comp (own := [("arg", 5)]) rfl sc_key_text.nd (blkOk_by (own := [("arg", 5)]) (N := N_key_text) (sc := defScope s_key_text) (by decide +kernel)) (by decide) (g_nm 5) (i_any (e_var (i := 2) rfl (.inl rfl))) (fun _ _ _ _ _ => (pg_name (i := 5) sc_key_text.nd rfl (by exact .inl rfl))) (fun _ _ _ _ _ => ts_nil) (fun _ _ _ _ _ => (e_bin o_add s_add e_str (e_var (i := 5) rfl (by exact .inl rfl))))) a_nil)))
    (ss_cons (s_exp (e_met PySem.F.plainAttrs_list PySem.F.slot_list_extend PySem.F.type_list_extend mt_extend s_extend (e_var (i := 4) rfl (.inl rfl)) (a_cons (e_comp (own := [("name", 6)]) rfl sc_key_text.nd (blkOk_by (own := [("name", 6)]) (N := N_key_text) (sc := defScope s_key_text) (by decide +kernel)) (by decide) (g_nm 6) (i_any (e_var (i := 3) rfl (.inl rfl))) (fun _ _ _ _ _ => (pg_name (i := 6) sc_key_text.nd rfl (by exact .inl rfl))) (fun _ _ _ _ _ => ts_nil) (fun _ _ _ _ _ => (e_fs (e_var (i := 6) rfl (by exact .inl rfl))))) a_nil)))
    (ss_one (s_ret (e_met PySem.F.plainAttrs_str PySem.F.slot_str_join PySem.F.type_str_join mt_join s_join.met e_str (a_cons (e_comp (own := [("line", 7)]) rfl sc_key_text.nd (blkOk_by (own := [("line", 7)]) (N := N_key_text) (sc := defScope s_key_text) (by decide +kernel)) (by decide) (g_nm 7) (i_any (e_var (i := 4) rfl (.inl rfl))) (fun _ _ _ _ _ => (pg_name (i := 7) sc_key_text.nd rfl (by exact .inl rfl))) (fun _ _ _ _ _ => ts_nil) (fun _ _ _ _ _ => (e_bin o_add s_add (e_var (i := 7) rfl (by exact .inl rfl)) e_str))) a_nil))))))))
theorem ok_claim_text (T : Txt wd K mg) : OkF P wd K mg base "claim_text" 1 1 Mi.m_claim_text := OkF.mk' (k := 0) (b := Mi.b_claim_text) T.h_claim_text sc_claim_text rfl rfl rfl fun f cdv A outer s H E hr =>
  (ss_cons (s_asg (pg_tup rfl (pgs_cons (pg_name (i := 1) sc_claim_text.nd rfl (.inl rfl)) (pgs_cons (pg_name (i := 2) sc_claim_text.nd rfl (.inl rfl)) pgs_nil))) (g_tp (gs_cons (g_nm 1) (gs_cons (g_nm 2) gs_nil))) (e_var (i := 0) rfl (.inl rfl)))
    (ss_one (s_ret (e_bin o_add s_add (e_bin o_add s_add (e_var (i := 1) rfl (.inl rfl)) e_str) (e_var (i := 2) rfl (.inl rfl))))))
theorem ok_law_next (T : Txt wd K mg) : OkF P wd K mg base "_law_next" 1 3 Mi.m_law_next := OkF.mk' (k := 0) (b := Mi.b_law_next) T.h_law_next sc_law_next rfl rfl rfl fun f cdv A outer s H E hr =>
  (ss_cons (s_if (c_cmp o_gt s_cmp (e_ix (e_var (i := 0) rfl (.inl rfl)) e_int (fun _ _ => rfl)) e_int (nomark _)) (ss_cons (s_set (i := 3) sc_law_next.nd rfl (.inl rfl) (e_bin op_modN s_mod (e_cty call_int1 s_int rfl T.b_int bl_int (a_cons (e_ix (e_var (i := 0) rfl (.inl rfl)) e_int (fun _ _ => rfl)) a_nil)) (e_var (i := 2) rfl (.inl rfl))))
    (ss_cons (s_sub1 (e_bin op_fdivN s_div (e_cty call_int1 s_int rfl T.b_int bl_int (a_cons (e_ix (e_var (i := 0) rfl (.inl rfl)) e_int (fun _ _ => rfl)) a_nil)) (e_var (i := 2) rfl (.inl rfl))) (e_var (i := 0) rfl (.inl rfl)) e_int)
    (ss_one (s_ret (e_var (i := 3) rfl (.inl rfl)))))) ss_nil)
    (ss_cons (s_set (i := 4) sc_law_next.nd rfl (.inl rfl) e_int)
    (ss_cons (s_if (c_cmp o_lt s_cmp (e_ix (e_var (i := 0) rfl (.inl rfl)) e_int (fun _ _ => rfl)) (e_cb call_len s_len rfl T.b_len bl_len (a_cons (e_var (i := 1) rfl (.inl rfl)) a_nil)) (nomark _)) (ss_one (s_set (i := 4) sc_law_next.nd rfl (.inl rfl) (e_cb call_abs s_abs rfl T.b_abs bl_abs (a_cons (e_cty call_int1 s_int rfl T.b_int bl_int (a_cons (e_ix (e_var (i := 1) rfl (.inl rfl)) (e_ix (e_var (i := 0) rfl (.inl rfl)) e_int (fun _ _ => rfl)) (fun _ _ => rfl)) a_nil)) a_nil)))) ss_nil)
    (ss_cons (s_sub1 (e_bin o_add s_add (e_ix (e_var (i := 0) rfl (.inl rfl)) e_int (fun _ _ => rfl)) e_int) (e_var (i := 0) rfl (.inl rfl)) e_int)
    (ss_cons (s_if (c_cmp o_ge s_cmp (e_var (i := 4) rfl (.inl rfl)) (e_bin op_pow s_pow e_int e_int) (nomark _)) (ss_cons (s_sub1 (e_bin op_fdivN s_div (e_var (i := 4) rfl (.inl rfl)) (e_var (i := 2) rfl (.inl rfl))) (e_var (i := 0) rfl (.inl rfl)) e_int)
    (ss_one (s_ret (e_bin op_modN s_mod (e_cty call_int1 s_int rfl T.b_int bl_int (a_cons (e_var (i := 4) rfl (.inl rfl)) a_nil)) (e_var (i := 2) rfl (.inl rfl)))))) ss_nil)
    (ss_cons (s_sub1 (e_bin op_modN s_mod (e_cty call_int1 s_int rfl T.b_int bl_int (a_cons (e_bin o_add s_add (e_bin o_add s_add (e_bin o_mul s_mul (e_ix (e_var (i := 0) rfl (.inl rfl)) e_int (fun _ _ => rfl)) e_int) (e_bin o_mul s_mul (e_var (i := 4) rfl (.inl rfl)) e_int)) e_int) a_nil)) e_int) (e_var (i := 0) rfl (.inl rfl)) e_int)
    (ss_one (s_ret (e_bin op_modN s_mod (e_cty call_int1 s_int rfl T.b_int bl_int (a_cons (e_bin o_add s_add (e_bin op_fdivN s_div (e_ix (e_var (i := 0) rfl (.inl rfl)) e_int (fun _ _ => rfl)) e_int) (e_bin op_fdivN s_div (e_bin o_mul s_mul (e_ix (e_var (i := 0) rfl (.inl rfl)) e_int (fun _ _ => rfl)) (e_ix (e_var (i := 0) rfl (.inl rfl)) e_int (fun _ _ => rfl))) e_int)) a_nil)) (e_var (i := 2) rfl (.inl rfl)))))))))))
theorem ok_law_char (T : Txt wd K mg) : OkF P wd K mg base "_law_char" 1 1 Mi.m_law_char := OkF.mk' (k := 0) (b := Mi.b_law_char) T.h_law_char sc_law_char rfl rfl rfl fun f cdv A outer s H E hr =>
  (ss_cons (s_set (i := 1) sc_law_char.nd rfl (.inl rfl) e_str)
    (ss_cons (s_set (i := 1) sc_law_char.nd rfl (.inl rfl) (e_bin o_add s_add (e_var (i := 1) rfl (.inl rfl)) e_str))
    (ss_one (s_ret (e_ix (e_var (i := 1) rfl (.inl rfl)) (e_var (i := 0) rfl (.inl rfl)) (fun _ _ => rfl))))))
theorem ok_law_reserved (T : Txt wd K mg) : OkF P wd K mg base "_law_reserved" 1 0 Mi.m_law_reserved := OkF.mk' (k := 0) (b := Mi.b_law_reserved) T.h_law_reserved sc_law_reserved rfl rfl rfl fun f cdv A outer s H E hr =>
  (ss_cons (s_set (i := 0) sc_law_reserved.nd rfl (.inl rfl) (e_lst (a_cons e_str (a_cons e_str (a_cons e_str (a_cons e_str (a_cons e_str (a_cons e_str (a_cons e_str (a_cons e_str (a_cons e_str (a_cons e_str (a_cons e_str (a_cons e_str (a_cons e_str a_nil)))))))))))))))
    (ss_one (s_ret (e_bin o_add s_add (e_var (i := 0) rfl (.inl rfl)) (e_lst (a_cons e_str (a_cons e_str (a_cons e_str a_nil))))))))
theorem ok_law_is_word (T : Txt wd K mg) : OkF P wd K mg base "_law_is_word" 1 1 Mi.m_law_is_word := OkF.mk' (k := 0) (b := Mi.b_law_is_word) T.h_law_is_word sc_law_is_word rfl rfl rfl fun f cdv A outer s H E hr =>
  (ss_cons (s_set (i := 1) sc_law_is_word.nd rfl (.inr rfl) e_str)
    (ss_cons (s_if (c_w (w_or (c_cmp o_gt s_cmp (e_cb call_len s_len rfl T.b_len bl_len (a_cons (e_var (i := 0) rfl (.inl rfl)) a_nil)) e_int (nomark _)) (w_or1 (c_cmp o_notIn s_notIn (e_ix (e_var (i := 0) rfl (.inl rfl)) e_int (fun _ _ => rfl)) (e_var (i := 1) rfl (.inr (.inl rfl))) rfl)))) (ss_one (s_ret e_bl)) ss_nil)
    (ss_one (s_ret (e_cmp (o_eq hr.units) s_eq (e_cb call_len s_len rfl T.b_len bl_len (a_cons (e_comp (own := [("letter", 2)]) rfl sc_law_is_word.nd (blkOk_by (own := [("letter", 2)]) (N := N_law_is_word) (sc := defScope s_law_is_word) (by decide +kernel)) (by decide) (g_nm 2) (i_any (e_var (i := 0) rfl (.inl rfl))) (fun _ _ _ _ _ => (pg_name (i := 2) sc_law_is_word.nd rfl (by exact .inl rfl))) (fun _ _ _ _ _ => (ts_one (c_cmp o_notIn s_notIn (e_var (i := 2) rfl (by exact .inl rfl)) (e_bin o_add s_add (e_var (i := 1) rfl (by exact .inr (.inl rfl))) e_str) rfl))) (fun _ _ _ _ _ => e_int)) a_nil)) e_int (nomark _))))))
theorem ok_quoted_at (T : Txt wd K mg) : OkF P wd K mg base "quoted_at" 2 2 Mi.m_quoted_at_2 := OkF.mk' (k := 1) (b := Mi.b_quoted_at_2) T.h_quoted_at sc_quoted_at rfl rfl rfl fun f cdv A outer s H E hr =>
  (ss_cons (s_set (i := 2) sc_quoted_at.nd rfl (.inl rfl) (e_cel a_nil))
    (ss_cons (s_set (i := 3) sc_quoted_at.nd rfl (.inl rfl) (e_bin o_add s_add (e_var (i := 1) rfl (.inl rfl)) e_int))
    (ss_cons (s_wh 100000 (passes_of rfl) (c_w (w_and (c_cmp o_lt s_cmp (e_var (i := 3) rfl (.inl rfl)) (e_cb call_len s_len rfl T.b_len bl_len (a_cons (e_var (i := 0) rfl (.inl rfl)) a_nil)) (nomark _)) (w_and1 (c_cmp (o_ne hr.units) s_ne (e_ix (e_var (i := 0) rfl (.inl rfl)) (e_var (i := 3) rfl (.inl rfl)) (fun _ _ => rfl)) e_str (nomark _))))) (ss_cons (s_if (c_cmp (o_eq hr.units) s_eq (e_ix (e_var (i := 0) rfl (.inl rfl)) (e_var (i := 3) rfl (.inl rfl)) (fun _ _ => rfl)) e_str (nomark _)) (ss_one (s_ret (e_f (ok_quoted_token T) hr (by decide) (L2N.takes_of rfl rfl rfl rfl) (a_cons (e_met PySem.F.plainAttrs_str PySem.F.slot_str_join PySem.F.type_str_join mt_join s_join.met e_str (a_cons (e_var (i := 2) rfl (.inl rfl)) a_nil)) (a_cons (e_var (i := 1) rfl (.inl rfl)) (a_cons (e_bin o_add s_add (e_var (i := 3) rfl (.inl rfl)) e_int) a_nil))) (mCons_len (mCons_len (mCons_len mNil_len))) rfl))) ss_nil)
    (ss_cons (s_if (c_cmp (o_eq hr.units) s_eq (e_ix (e_var (i := 0) rfl (.inl rfl)) (e_var (i := 3) rfl (.inl rfl)) (fun _ _ => rfl)) e_str (nomark _)) (ss_cons (s_aug (i := 3) sc_quoted_at.nd rfl (.inl rfl) ip_add i_add e_int)
    (ss_cons (s_if (c_w (w_or (c_cmp (o_eq hr.units) s_eq (e_var (i := 3) rfl (.inl rfl)) (e_cb call_len s_len rfl T.b_len bl_len (a_cons (e_var (i := 0) rfl (.inl rfl)) a_nil)) (nomark _)) (w_or1 (c_kni T.g_ESCAPES rfl (e_ix (e_var (i := 0) rfl (.inl rfl)) (e_var (i := 3) rfl (.inl rfl)) (fun _ _ => rfl)))))) (ss_one (s_ret (e_tup (a_cons e_str (a_cons e_str (a_cons (e_var (i := 1) rfl (.inl rfl)) a_nil)))))) ss_nil)
    (ss_one (s_exp (e_met PySem.F.plainAttrs_list PySem.F.slot_list_append PySem.F.type_list_append mt_append s_append (e_var (i := 2) rfl (.inl rfl)) (a_cons (e_kix T.g_ESCAPES rfl (e_ix (e_var (i := 0) rfl (.inl rfl)) (e_var (i := 3) rfl (.inl rfl)) (fun _ _ => rfl)) (fun _ _ => rfl)) a_nil)))))) (ss_one (s_exp (e_met PySem.F.plainAttrs_list PySem.F.slot_list_append PySem.F.type_list_append mt_append s_append (e_var (i := 2) rfl (.inl rfl)) (a_cons (e_ix (e_var (i := 0) rfl (.inl rfl)) (e_var (i := 3) rfl (.inl rfl)) (fun _ _ => rfl)) a_nil)))))
    (ss_one (s_aug (i := 3) sc_quoted_at.nd rfl (.inl rfl) ip_add i_add e_int)))))
    (ss_one (s_ret (e_tup (a_cons e_str (a_cons e_str (a_cons (e_var (i := 1) rfl (.inl rfl)) a_nil)))))))))
theorem ok_text_fault (T : Txt wd K mg) : OkF P wd K mg base "text_fault" 2 1 Mi.m_text_fault := OkF.mk' (k := 1) (b := Mi.b_text_fault) T.h_text_fault sc_text_fault rfl rfl rfl fun f cdv A outer s H E hr =>
  (ss_cons (s_if (c_cmp o_gt s_cmp (e_cb call_len s_len rfl T.b_len bl_len (a_cons (e_var (i := 0) rfl (.inl rfl)) a_nil)) (e_gint T.g_LONGEST_TEXT rfl) (nomark _)) (ss_one (s_ret e_str)) ss_nil)
    (ss_cons (s_if (c_not (c_val (e_cb (cr_all rfl) s_all rfl T.b_all bl_all (a_cons (e_comp (own := [("sign", 1)]) rfl sc_text_fault.nd (blkOk_by (own := [("sign", 1)]) (N := N_text_fault) (sc := defScope s_text_fault) (by decide +kernel)) (by decide) (g_nm 1) (i_any (e_var (i := 0) rfl (.inl rfl))) (fun _ _ _ _ _ => (pg_name (i := 1) sc_text_fault.nd rfl (by exact .inl rfl))) (fun _ _ _ _ _ => ts_nil) (fun _ _ _ _ _ => (e_f (ok_is_plain T) hr (by decide) none_out (a_cons (e_var (i := 1) rfl (by exact .inl rfl)) a_nil) (mCons_len mNil_len) rfl))) a_nil)))) (ss_one (s_ret e_str)) ss_nil)
    (ss_one (s_ret e_non))))
theorem ok_is_name (T : Txt wd K mg) : OkF P wd K mg base "is_name" 2 1 Mi.m_is_name_2 := OkF.mk' (k := 1) (b := Mi.b_is_name_2) T.h_is_name sc_is_name rfl rfl rfl fun f cdv A outer s H E hr =>
  (ss_one (s_ret (e_and (e_f (ok_is_numeral T) hr (by decide) (L2N.takes_of rfl rfl rfl rfl) (a_cons (e_var (i := 0) rfl (.inl rfl)) (a_cons (e_gint T.g_MOST_DIGITS rfl) a_nil)) (mCons_len (mCons_len mNil_len)) rfl) (e_one (e_cmp (o_ne hr.units) s_ne (e_var (i := 0) rfl (.inl rfl)) e_str (nomark _))))))
theorem ok_law_drawn_tool (T : Txt wd K mg) : OkF P wd K mg base "_law_drawn_tool" 2 2 Mi.m_law_drawn_tool := OkF.mk' (k := 1) (b := Mi.b_law_drawn_tool) T.h_law_drawn_tool sc_law_drawn_tool rfl rfl rfl fun f cdv A outer s H E hr =>
  (ss_cons (s_set (i := 2) sc_law_drawn_tool.nd rfl (.inl rfl) (e_f (ok_law_next T) hr (by decide) (L2N.takes_of rfl rfl rfl rfl) (a_cons (e_var (i := 0) rfl (.inl rfl)) (a_cons (e_var (i := 1) rfl (.inl rfl)) (a_cons e_int a_nil))) (mCons_len (mCons_len (mCons_len mNil_len))) rfl))
    (ss_cons (s_if (c_cmp (o_eq hr.units) s_eq (e_var (i := 2) rfl (.inl rfl)) e_int (nomark _)) (ss_one (s_ret (e_ix (e_f0 (ok_law_reserved T) hr (by decide) (L2N.takes_of rfl rfl rfl rfl) rfl) (e_f (ok_law_next T) hr (by decide) (L2N.takes_of rfl rfl rfl rfl) (a_cons (e_var (i := 0) rfl (.inl rfl)) (a_cons (e_var (i := 1) rfl (.inl rfl)) (a_cons e_int a_nil))) (mCons_len (mCons_len (mCons_len mNil_len))) rfl) (fun _ _ => rfl)))) ss_nil)
    (ss_cons (s_set (i := 3) sc_law_drawn_tool.nd rfl (.inl rfl) (e_sl e_str o_none (o_some (e_ix (e_lst (a_cons e_int (a_cons e_int (a_cons e_int (a_cons e_int (a_cons e_int a_nil)))))) (e_f (ok_law_next T) hr (by decide) (L2N.takes_of rfl rfl rfl rfl) (a_cons (e_var (i := 0) rfl (.inl rfl)) (a_cons (e_var (i := 1) rfl (.inl rfl)) (a_cons e_int a_nil))) (mCons_len (mCons_len (mCons_len mNil_len))) rfl) (fun _ _ => rfl)))))
    (ss_cons (s_if (c_cmp (o_eq hr.units) s_eq (e_var (i := 2) rfl (.inl rfl)) e_int (nomark _)) (ss_cons (s_set (i := 4) sc_law_drawn_tool.nd rfl (.inl rfl) (e_f (ok_law_next T) hr (by decide) (L2N.takes_of rfl rfl rfl rfl) (a_cons (e_var (i := 0) rfl (.inl rfl)) (a_cons (e_var (i := 1) rfl (.inl rfl)) (a_cons (e_cb call_len s_len rfl T.b_len bl_len (a_cons (e_var (i := 3) rfl (.inl rfl)) a_nil)) a_nil))) (mCons_len (mCons_len (mCons_len mNil_len))) rfl))
    (ss_one (s_set (i := 3) sc_law_drawn_tool.nd rfl (.inl rfl) (e_bin o_add s_add (e_bin o_add s_add (e_sl (e_var (i := 3) rfl (.inl rfl)) o_none (o_some (e_var (i := 4) rfl (.inl rfl)))) (e_ix (e_lst (a_cons e_str (a_cons e_str (a_cons e_str (a_cons e_str (a_cons e_str (a_cons e_str a_nil))))))) (e_f (ok_law_next T) hr (by decide) (L2N.takes_of rfl rfl rfl rfl) (a_cons (e_var (i := 0) rfl (.inl rfl)) (a_cons (e_var (i := 1) rfl (.inl rfl)) (a_cons e_int a_nil))) (mCons_len (mCons_len (mCons_len mNil_len))) rfl) (fun _ _ => rfl))) (e_sl (e_var (i := 3) rfl (.inl rfl)) (o_some (e_bin o_add s_add (e_var (i := 4) rfl (.inl rfl)) e_int)) o_none))))) ss_nil)
    (ss_one (s_ret (e_var (i := 3) rfl (.inl rfl))))))))
theorem ok_law_turned (T : Txt wd K mg) : OkF P wd K mg base "_law_turned" 2 4 Mi.m_law_turned := OkF.mk' (k := 1) (b := Mi.b_law_turned) T.h_law_turned sc_law_turned rfl rfl rfl fun f cdv A outer s H E hr =>
  (ss_cons (s_set (i := 4) sc_law_turned.nd rfl (.inl rfl) (e_f (ok_law_next T) hr (by decide) (L2N.takes_of rfl rfl rfl rfl) (a_cons (e_var (i := 0) rfl (.inl rfl)) (a_cons (e_var (i := 1) rfl (.inl rfl)) (a_cons e_int a_nil))) (mCons_len (mCons_len (mCons_len mNil_len))) rfl))
    (ss_cons (s_set (i := 5) sc_law_turned.nd rfl (.inl rfl) (e_bin o_add s_add (e_bin o_add s_add (e_lst (a_cons (e_var (i := 2) rfl (.inl rfl)) a_nil)) (e_ix (e_var (i := 3) rfl (.inl rfl)) e_int (fun _ _ => rfl))) (e_ix (e_var (i := 3) rfl (.inl rfl)) e_int (fun _ _ => rfl))))
    (ss_cons (s_if (c_cmp (o_eq hr.units) s_eq (e_var (i := 4) rfl (.inl rfl)) e_int (nomark _)) (ss_one (s_set (i := 5) sc_law_turned.nd rfl (.inl rfl) (e_bin o_add s_add (e_bin o_add s_add (e_bin o_add s_add (e_lst (a_cons (e_var (i := 2) rfl (.inl rfl)) a_nil)) (e_ix (e_var (i := 3) rfl (.inl rfl)) e_int (fun _ _ => rfl))) (e_lst (a_cons e_str (a_cons e_str a_nil)))) (e_ix (e_var (i := 3) rfl (.inl rfl)) e_int (fun _ _ => rfl))))) ss_nil)
    (ss_cons (s_if (c_cmp (o_eq hr.units) s_eq (e_var (i := 4) rfl (.inl rfl)) e_int (nomark _)) (ss_one (s_set (i := 5) sc_law_turned.nd rfl (.inl rfl) (e_bin o_add s_add (e_var (i := 5) rfl (.inl rfl)) (e_lst (a_cons (e_bin o_add s_add e_str (e_cty call_str_int s_str rfl T.b_str bl_str (a_cons (e_f (ok_law_next T) hr (by decide) (L2N.takes_of rfl rfl rfl rfl) (a_cons (e_var (i := 0) rfl (.inl rfl)) (a_cons (e_var (i := 1) rfl (.inl rfl)) (a_cons e_int a_nil))) (mCons_len (mCons_len (mCons_len mNil_len))) rfl) a_nil))) a_nil))))) ss_nil)
    (ss_cons (s_set (i := 6) sc_law_turned.nd rfl (.inl rfl) (e_met PySem.F.plainAttrs_str PySem.F.slot_str_join PySem.F.type_str_join mt_join s_join.met e_str (a_cons (e_comp (own := [("line", 7)]) rfl sc_law_turned.nd (blkOk_by (own := [("line", 7)]) (N := N_law_turned) (sc := defScope s_law_turned) (by decide +kernel)) (by decide) (g_nm 7) (i_any (e_var (i := 5) rfl (.inl rfl))) (fun _ _ _ _ _ => (pg_name (i := 7) sc_law_turned.nd rfl (by exact .inl rfl))) (fun _ _ _ _ _ => ts_nil) (fun _ _ _ _ _ => (e_bin o_add s_add (e_var (i := 7) rfl (by exact .inl rfl)) e_str))) a_nil)))
    (ss_one (s_ret (e_sl (e_var (i := 6) rfl (.inl rfl)) o_none (o_some (e_bin op_sub s_sub (e_cb call_len s_len rfl T.b_len bl_len (a_cons (e_var (i := 6) rfl (.inl rfl)) a_nil)) (e_cty call_int1 s_int rfl T.b_int bl_int (a_cons (e_cmp (o_eq hr.units) s_eq (e_var (i := 4) rfl (.inl rfl)) e_int (nomark _)) a_nil))))))))))))
theorem ok_token_at (T : Txt wd K mg) : OkF P wd K mg base "token_at" 3 2 Mi.m_token_at_2 := OkF.mk' (k := 2) (b := Mi.b_token_at_2) T.h_token_at sc_token_at rfl rfl rfl fun f cdv A outer s H E hr =>
  (ss_cons (s_if (c_cmp o_in s_in (e_ix (e_var (i := 0) rfl (.inl rfl)) (e_var (i := 1) rfl (.inl rfl)) (fun _ _ => rfl)) (e_gstr T.g_WORD_STARTS rfl) rfl) (ss_one (s_ret (e_f (ok_word_at T) hr (by decide) (L2N.takes_of rfl rfl rfl rfl) (a_cons (e_var (i := 0) rfl (.inl rfl)) (a_cons (e_var (i := 1) rfl (.inl rfl)) a_nil)) (mCons_len (mCons_len mNil_len)) rfl))) ss_nil)
    (ss_cons (s_if (c_cmp (o_eq hr.units) s_eq (e_ix (e_var (i := 0) rfl (.inl rfl)) (e_var (i := 1) rfl (.inl rfl)) (fun _ _ => rfl)) e_str (nomark _)) (ss_one (s_ret (e_f (ok_quoted_at T) hr (by decide) (L2N.takes_of rfl rfl rfl rfl) (a_cons (e_var (i := 0) rfl (.inl rfl)) (a_cons (e_var (i := 1) rfl (.inl rfl)) a_nil)) (mCons_len (mCons_len mNil_len)) rfl))) ss_nil)
    (ss_cons (s_if (c_cmp o_in s_in (e_sl (e_var (i := 0) rfl (.inl rfl)) (o_some (e_var (i := 1) rfl (.inl rfl))) (o_some (e_bin o_add s_add (e_var (i := 1) rfl (.inl rfl)) e_int))) (e_gtup T.g_LONG_SIGNS rfl) rfl) (ss_one (s_ret (e_tup (a_cons e_str (a_cons (e_sl (e_var (i := 0) rfl (.inl rfl)) (o_some (e_var (i := 1) rfl (.inl rfl))) (o_some (e_bin o_add s_add (e_var (i := 1) rfl (.inl rfl)) e_int))) (a_cons (e_bin o_add s_add (e_var (i := 1) rfl (.inl rfl)) e_int) a_nil)))))) ss_nil)
    (ss_cons (s_if (c_cmp o_in s_in (e_ix (e_var (i := 0) rfl (.inl rfl)) (e_var (i := 1) rfl (.inl rfl)) (fun _ _ => rfl)) (e_gstr T.g_SIGNS rfl) rfl) (ss_one (s_ret (e_tup (a_cons e_str (a_cons (e_ix (e_var (i := 0) rfl (.inl rfl)) (e_var (i := 1) rfl (.inl rfl)) (fun _ _ => rfl)) (a_cons (e_bin o_add s_add (e_var (i := 1) rfl (.inl rfl)) e_int) a_nil)))))) ss_nil)
    (ss_one (s_ret (e_tup (a_cons e_str (a_cons e_str (a_cons (e_var (i := 1) rfl (.inl rfl)) a_nil))))))))))
theorem ok_is_short (T : Txt wd K mg) : OkF P wd K mg base "is_short" 3 2 Mi.m_is_short := OkF.mk' (k := 2) (b := Mi.b_is_short) T.h_is_short sc_is_short rfl rfl rfl fun f cdv A outer s H E hr =>
  (ss_one (s_ret (e_and (e_cmp o_le s_cmp (e_cb call_len s_len rfl T.b_len bl_len (a_cons (e_var (i := 0) rfl (.inl rfl)) a_nil)) (e_var (i := 1) rfl (.inl rfl)) (nomark _)) (e_one (e_cmp op_isN s_is (e_f (ok_text_fault T) hr (by decide) (L2N.takes_of rfl rfl rfl rfl) (a_cons (e_var (i := 0) rfl (.inl rfl)) a_nil) (mCons_len mNil_len) rfl) e_non (nomark _))))))
theorem ok_are_names (T : Txt wd K mg) : OkF P wd K mg base "are_names" 3 1 Mi.m_are_names_2 := OkF.mk' (k := 2) (b := Mi.b_are_names_2) T.h_are_names sc_are_names rfl rfl rfl fun f cdv A outer s H E hr =>
  (ss_one (s_ret (e_and (e_cmp o_le s_cmp (e_cb call_len s_len rfl T.b_len bl_len (a_cons (e_var (i := 0) rfl (.inl rfl)) a_nil)) (e_gint T.g_MOST_NAMES rfl) (nomark _)) (e_one (e_cb (cr_all rfl) s_all rfl T.b_all bl_all (a_cons (e_comp (own := [("name", 1)]) rfl sc_are_names.nd (blkOk_by (own := [("name", 1)]) (N := N_are_names) (sc := defScope s_are_names) (by decide +kernel)) (by decide) (g_nm 1) (i_any (e_var (i := 0) rfl (.inl rfl))) (fun _ _ _ _ _ => (pg_name (i := 1) sc_are_names.nd rfl (by exact .inl rfl))) (fun _ _ _ _ _ => ts_nil) (fun _ _ _ _ _ => (e_f (ok_is_name T) hr (by decide) none_out (a_cons (e_var (i := 1) rfl (by exact .inl rfl)) a_nil) (mCons_len mNil_len) rfl))) a_nil))))))
theorem ok_tokens (T : Txt wd K mg) : OkF P wd K mg base "tokens" 4 1 Mi.m_tokens_2 := OkF.mk' (k := 3) (b := Mi.b_tokens_2) T.h_tokens sc_tokens rfl rfl rfl fun f cdv A outer s H E hr =>
  (ss_cons (s_set (i := 1) sc_tokens.nd rfl (.inl rfl) (e_cel a_nil))
    (ss_cons (s_set (i := 2) sc_tokens.nd rfl (.inl rfl) e_int)
    (ss_cons (s_set (i := 3) sc_tokens.nd rfl (.inl rfl) e_int)
    (ss_cons (s_set (i := 4) sc_tokens.nd rfl (.inl rfl) e_int)
    (ss_cons (s_wh 100000 (passes_of rfl) (c_cmp o_lt s_cmp (e_var (i := 2) rfl (.inl rfl)) (e_cb call_len s_len rfl T.b_len bl_len (a_cons (e_var (i := 0) rfl (.inl rfl)) a_nil)) (nomark _)) (ss_one (s_if (c_cmp (o_eq hr.units) s_eq (e_ix (e_var (i := 0) rfl (.inl rfl)) (e_var (i := 2) rfl (.inl rfl)) (fun _ _ => rfl)) e_str (nomark _)) (ss_cons (s_aug (i := 2) sc_tokens.nd rfl (.inl rfl) ip_add i_add e_int)
    (ss_cons (s_aug (i := 3) sc_tokens.nd rfl (.inl rfl) ip_add i_add e_int)
    (ss_one (s_set (i := 4) sc_tokens.nd rfl (.inl rfl) (e_var (i := 2) rfl (.inl rfl)))))) (ss_one (s_if (c_cmp (o_eq hr.units) s_eq (e_ix (e_var (i := 0) rfl (.inl rfl)) (e_var (i := 2) rfl (.inl rfl)) (fun _ _ => rfl)) e_str (nomark _)) (ss_one (s_aug (i := 2) sc_tokens.nd rfl (.inl rfl) ip_add i_add e_int)) (ss_cons (s_asg (pg_tup rfl (pgs_cons (pg_name (i := 5) sc_tokens.nd rfl (.inl rfl)) (pgs_cons (pg_name (i := 6) sc_tokens.nd rfl (.inl rfl)) (pgs_cons (pg_name (i := 7) sc_tokens.nd rfl (.inl rfl)) pgs_nil)))) (g_tp (gs_cons (g_nm 5) (gs_cons (g_nm 6) (gs_cons (g_nm 7) gs_nil)))) (e_f (ok_token_at T) hr (by decide) (L2N.takes_of rfl rfl rfl rfl) (a_cons (e_var (i := 0) rfl (.inl rfl)) (a_cons (e_var (i := 2) rfl (.inl rfl)) a_nil)) (mCons_len (mCons_len mNil_len)) rfl))
    (ss_cons (s_exp (e_met PySem.F.plainAttrs_list PySem.F.slot_list_append PySem.F.type_list_append mt_append s_append (e_var (i := 1) rfl (.inl rfl)) (a_cons (e_tup (a_cons (e_var (i := 5) rfl (.inl rfl)) (a_cons (e_var (i := 6) rfl (.inl rfl)) (a_cons (e_var (i := 3) rfl (.inl rfl)) (a_cons (e_bin o_add s_add (e_bin op_sub s_sub (e_var (i := 2) rfl (.inl rfl)) (e_var (i := 4) rfl (.inl rfl))) e_int) a_nil))))) a_nil)))
    (ss_cons (s_if (c_cmp (o_eq hr.units) s_eq (e_var (i := 5) rfl (.inl rfl)) e_str (nomark _)) (ss_one (s_ret (e_cty call_tuple_of s_tupleOf rfl T.b_tuple bl_tuple (a_cons (e_var (i := 1) rfl (.inl rfl)) a_nil)))) ss_nil)
    (ss_one (s_set (i := 2) sc_tokens.nd rfl (.inl rfl) (e_var (i := 7) rfl (.inl rfl))))))))))))
    (ss_one (s_ret (e_cty call_tuple_of s_tupleOf rfl T.b_tuple bl_tuple (a_cons (e_var (i := 1) rfl (.inl rfl)) a_nil)))))))))
theorem ok_are_args (T : Txt wd K mg) : OkF P wd K mg base "are_args" 4 1 Mi.m_are_args := OkF.mk' (k := 3) (b := Mi.b_are_args) T.h_are_args sc_are_args rfl rfl rfl fun f cdv A outer s H E hr =>
  (ss_one (s_ret (e_and (e_cmp o_le s_cmp (e_cb call_len s_len rfl T.b_len bl_len (a_cons (e_var (i := 0) rfl (.inl rfl)) a_nil)) (e_gint T.g_MOST_ARGS rfl) (nomark _)) (e_one (e_cb (cr_all rfl) s_all rfl T.b_all bl_all (a_cons (e_comp (own := [("arg", 1)]) rfl sc_are_args.nd (blkOk_by (own := [("arg", 1)]) (N := N_are_args) (sc := defScope s_are_args) (by decide +kernel)) (by decide) (g_nm 1) (i_any (e_var (i := 0) rfl (.inl rfl))) (fun _ _ _ _ _ => (pg_name (i := 1) sc_are_args.nd rfl (by exact .inl rfl))) (fun _ _ _ _ _ => ts_nil) (fun _ _ _ _ _ => (e_f (ok_is_short T) hr (by decide) none_out (a_cons (e_var (i := 1) rfl (by exact .inl rfl)) (a_cons (e_gint T.g_LONGEST_ARG rfl) a_nil)) (mCons_len (mCons_len mNil_len)) rfl))) a_nil))))))
theorem ok_is_told (T : Txt wd K mg) : OkF P wd K mg base "is_told" 4 2 Mi.m_is_told := OkF.mk' (k := 3) (b := Mi.b_is_told) T.h_is_told sc_is_told rfl rfl rfl fun f cdv A outer s H E hr =>
  (ss_cons (s_if (c_cmp (o_eq hr.units) s_eq (e_var (i := 0) rfl (.inl rfl)) e_str (nomark _)) (ss_one (s_ret (e_cmp op_isN s_is (e_f (ok_text_fault T) hr (by decide) (L2N.takes_of rfl rfl rfl rfl) (a_cons (e_var (i := 1) rfl (.inl rfl)) a_nil) (mCons_len mNil_len) rfl) e_non (nomark _)))) ss_nil)
    (ss_one (s_ret (e_and (e_cmp (o_eq hr.units) s_eq (e_var (i := 0) rfl (.inl rfl)) e_str (nomark _)) (e_and (e_cmp o_notIn s_notIn e_str (e_var (i := 1) rfl (.inl rfl)) rfl) (e_one (e_f (ok_is_short T) hr (by decide) (L2N.takes_of rfl rfl rfl rfl) (a_cons (e_var (i := 1) rfl (.inl rfl)) (a_cons (e_gint T.g_LONGEST_REASON rfl) a_nil)) (mCons_len (mCons_len mNil_len)) rfl)))))))
theorem ok_is_word (T : Txt wd K mg) : OkF P wd K mg base "is_word" 5 1 Mi.m_is_word := OkF.mk' (k := 4) (b := Mi.b_is_word) T.h_is_word sc_is_word rfl rfl rfl fun f cdv A outer s H E hr =>
  (ss_one (s_ret (e_cmp (o_eq hr.units) s_eq (e_f (ok_tokens T) hr (by decide) (L2N.takes_of rfl rfl rfl rfl) (a_cons (e_var (i := 0) rfl (.inl rfl)) a_nil) (mCons_len mNil_len) rfl) (e_tup (a_cons (e_tup (a_cons e_str (a_cons (e_var (i := 0) rfl (.inl rfl)) (a_cons e_int (a_cons e_int a_nil))))) a_nil)) (nomark _))))
theorem ok_read_claim (T : Txt wd K mg) : OkF P wd K mg base "read_claim" 5 1 Mi.m_read_claim := OkF.mk' (k := 4) (b := Mi.b_read_claim) T.h_read_claim sc_read_claim rfl rfl rfl fun f cdv A outer s H E hr =>
  (ss_cons (s_asg (pg_tup rfl (pgs_cons (pg_name (i := 1) sc_read_claim.nd rfl (.inl rfl)) (pgs_cons (pg_name (i := 2) sc_read_claim.nd rfl (.inl rfl)) (pgs_cons (pg_name (i := 3) sc_read_claim.nd rfl (.inl rfl)) pgs_nil)))) (g_tp (gs_cons (g_nm 1) (gs_cons (g_nm 2) (gs_cons (g_nm 3) gs_nil)))) (e_met PySem.F.plainAttrs_str PySem.F.slot_str_partition PySem.F.type_str_partition mt_partition s_partition.met (e_var (i := 0) rfl (.inl rfl)) (a_cons e_str a_nil)))
    (ss_cons (s_if (c_w (w_or (c_cmp (o_eq hr.units) s_eq (e_var (i := 2) rfl (.inl rfl)) e_str (nomark _)) (w_or1 (c_not (c_val (e_f (ok_is_told T) hr (by decide) (L2N.takes_of rfl rfl rfl rfl) (a_cons (e_var (i := 1) rfl (.inl rfl)) (a_cons (e_var (i := 3) rfl (.inl rfl)) a_nil)) (mCons_len (mCons_len mNil_len)) rfl)))))) (ss_one (s_raise0 rfl (L2N.takes_of rfl rfl rfl rfl) T.e_BadMessage rfl)) ss_nil)
    (ss_one (s_ret (e_tup (a_cons (e_var (i := 1) rfl (.inl rfl)) (a_cons (e_var (i := 3) rfl (.inl rfl)) a_nil)))))))
theorem ok_read_key (T : Txt wd K mg) : OkF P wd K mg base "read_key" 6 1 Mi.m_read_key_3 := OkF.mk' (k := 5) (b := Mi.b_read_key_3) T.h_read_key sc_read_key rfl rfl rfl fun f cdv A outer s H E hr =>
  (ss_cons (s_set (i := 1) sc_read_key.nd rfl (.inl rfl) (e_met PySem.F.plainAttrs_str PySem.F.slot_str_split PySem.F.type_str_split mt_split s_split.met (e_var (i := 0) rfl (.inl rfl)) (a_cons e_str a_nil)))
    (ss_cons (s_set (i := 2) sc_read_key.nd rfl (.inl rfl) (e_ix (e_var (i := 1) rfl (.inl rfl)) e_int (fun _ _ => rfl)))
    (ss_cons (s_setC (i := 3) (own := [("line", 6)]) rfl sc_read_key.nd rfl rfl (sw_true rfl rfl rfl (by decide +kernel)) (blkOk_by (own := [("line", 6)]) (N := N_read_key) (sc := defScope s_read_key) (by decide +kernel)) (by decide) (g_nm 6) (i_any (e_var (i := 1) rfl (.inl rfl))) (fun _ _ _ _ _ => (pg_name (i := 6) sc_read_key.nd rfl (by exact .inl rfl))) (fun _ _ _ _ _ => (ts_one (c_val (e_met PySem.F.plainAttrs_str PySem.F.slot_str_startswith PySem.F.type_str_startswith mt_startswith s_starts.met (e_var (i := 6) rfl (by exact .inl rfl)) (a_cons e_str a_nil))))) (fun _ _ _ _ _ => (e_sl (e_var (i := 6) rfl (by exact .inl rfl)) (o_some e_int) o_none)))
    (ss_cons (s_setC (i := 4) (own := [("line", 6)]) rfl sc_read_key.nd rfl rfl (sw_true rfl rfl rfl (by decide +kernel)) (blkOk_by (own := [("line", 6)]) (N := N_read_key) (sc := defScope s_read_key) (by decide +kernel)) (by decide) (g_nm 6) (i_any (e_var (i := 1) rfl (.inl rfl))) (fun _ _ _ _ _ => (pg_name (i := 6) sc_read_key.nd rfl (by exact .inl rfl))) (fun _ _ _ _ _ => (ts_one (c_val (e_met PySem.F.plainAttrs_str PySem.F.slot_str_startswith PySem.F.type_str_startswith mt_startswith s_starts.met (e_var (i := 6) rfl (by exact .inl rfl)) (a_cons e_str a_nil))))) (fun _ _ _ _ _ => (e_sl (e_var (i := 6) rfl (by exact .inl rfl)) (o_some e_int) o_none)))
    (ss_cons (s_if (c_w (w_or (c_not (c_val (e_f (ok_is_word T) hr (by decide) (L2N.takes_of rfl rfl rfl rfl) (a_cons (e_var (i := 2) rfl (.inl rfl)) a_nil) (mCons_len mNil_len) rfl))) (w_or (c_not (c_val (e_f (ok_are_args T) hr (by decide) (L2N.takes_of rfl rfl rfl rfl) (a_cons (e_var (i := 3) rfl (.inl rfl)) a_nil) (mCons_len mNil_len) rfl))) (w_or1 (c_not (c_val (e_f (ok_are_names T) hr (by decide) (L2N.takes_of rfl rfl rfl rfl) (a_cons (e_var (i := 4) rfl (.inl rfl)) a_nil) (mCons_len mNil_len) rfl))))))) (ss_one (s_raise0 rfl (L2N.takes_of rfl rfl rfl rfl) T.e_BadMessage rfl)) ss_nil)
    (ss_cons (s_set (i := 5) sc_read_key.nd rfl (.inl rfl) (e_tup (a_cons (e_var (i := 2) rfl (.inl rfl)) (a_cons (e_cty call_tuple_of s_tupleOf rfl T.b_tuple bl_tuple (a_cons (e_var (i := 3) rfl (.inl rfl)) a_nil)) (a_cons (e_cty call_tuple_of s_tupleOf rfl T.b_tuple bl_tuple (a_cons (e_comp (own := [("name", 7)]) rfl sc_read_key.nd (blkOk_by (own := [("name", 7)]) (N := N_read_key) (sc := defScope s_read_key) (by decide +kernel)) (by decide) (g_nm 7) (i_any (e_var (i := 4) rfl (.inl rfl))) (fun _ _ _ _ _ => (pg_name (i := 7) sc_read_key.nd rfl (by exact .inl rfl))) (fun _ _ _ _ _ => ts_nil) (fun _ _ _ _ _ => (e_cty call_intS s_intS rfl T.b_int bl_int (a_cons (e_var (i := 7) rfl (by exact .inl rfl)) a_nil)))) a_nil)) a_nil)))))
    (ss_cons (s_if (c_cmp (o_ne hr.units) s_ne (e_f (ok_key_text T) hr (by decide) (L2N.takes_of rfl rfl rfl rfl) (a_cons (e_var (i := 5) rfl (.inl rfl)) a_nil) (mCons_len mNil_len) rfl) (e_var (i := 0) rfl (.inl rfl)) (nomark _)) (ss_one (s_raise0 rfl (L2N.takes_of rfl rfl rfl rfl) T.e_BadMessage rfl)) ss_nil)
    (ss_one (s_ret (e_var (i := 5) rfl (.inl rfl)))))))))))
theorem ok_law_claim_refused (T : Txt wd K mg) : OkF P wd K mg base "_law_claim_refused" 6 2 Mi.m_law_claim_refused := OkF.mk' (k := 5) (b := Mi.b_law_claim_refused) T.h_law_claim_refused sc_law_claim_refused rfl rfl rfl fun f cdv A outer s H E hr =>
  (ss_cons (s_set (i := 2) sc_law_claim_refused.nd rfl (.inl rfl) (e_ix (e_lst (a_cons e_str (a_cons e_str a_nil))) (e_f (ok_law_next T) hr (by decide) (L2N.takes_of rfl rfl rfl rfl) (a_cons (e_var (i := 0) rfl (.inl rfl)) (a_cons (e_var (i := 1) rfl (.inl rfl)) (a_cons e_int a_nil))) (mCons_len (mCons_len (mCons_len mNil_len))) rfl) (fun _ _ => rfl)))
    (ss_cons (s_set (i := 3) sc_law_claim_refused.nd rfl (.inl rfl) (e_f (ok_law_next T) hr (by decide) (L2N.takes_of rfl rfl rfl rfl) (a_cons (e_var (i := 0) rfl (.inl rfl)) (a_cons (e_var (i := 1) rfl (.inl rfl)) (a_cons (e_bin o_add s_add (e_cb call_len s_len rfl T.b_len bl_len (a_cons (e_var (i := 2) rfl (.inl rfl)) a_nil)) e_int) a_nil))) (mCons_len (mCons_len (mCons_len mNil_len))) rfl))
    (ss_cons (s_set (i := 4) sc_law_claim_refused.nd rfl (.inl rfl) (e_lst (a_cons (e_var (i := 2) rfl (.inl rfl)) (a_cons e_str (a_cons (e_bin o_add s_add e_str (e_var (i := 2) rfl (.inl rfl))) (a_cons (e_bin o_add s_add (e_var (i := 2) rfl (.inl rfl)) e_str) (a_cons (e_bin o_add s_add (e_var (i := 2) rfl (.inl rfl)) e_str) (a_cons (e_bin o_add s_add (e_bin o_add s_add e_str (e_var (i := 2) rfl (.inl rfl))) e_str) (a_cons (e_bin o_add s_add (e_bin o_add s_add (e_sl (e_var (i := 2) rfl (.inl rfl)) o_none (o_some (e_var (i := 3) rfl (.inl rfl)))) (e_sl (e_var (i := 2) rfl (.inl rfl)) (o_some (e_bin o_add s_add (e_var (i := 3) rfl (.inl rfl)) e_int)) o_none)) e_str) a_nil)))))))))
    (ss_cons (s_set (i := 4) sc_law_claim_refused.nd rfl (.inl rfl) (e_bin o_add s_add (e_var (i := 4) rfl (.inl rfl)) (e_lst (a_cons (e_bin o_add s_add (e_bin o_add s_add (e_bin o_add s_add (e_sl (e_var (i := 2) rfl (.inl rfl)) o_none (o_some (e_var (i := 3) rfl (.inl rfl)))) e_str) (e_sl (e_var (i := 2) rfl (.inl rfl)) (o_some (e_var (i := 3) rfl (.inl rfl))) o_none)) e_str) (a_cons (e_bin o_add s_add (e_var (i := 2) rfl (.inl rfl)) e_str) (a_cons (e_bin o_add s_add (e_bin o_add s_add e_str (e_var (i := 2) rfl (.inl rfl))) e_str) a_nil))))))
    (ss_cons (s_tryAs (i := 5) rfl rfl sc_law_claim_refused.nd rfl rfl rfl (L2N.takes_of rfl rfl rfl rfl) T.k_BadMessage (fun W1 pn1 xe1 tk1 hp1 => (ss_one (s_exp (e_f (ok_read_claim T) hr (by decide) tk1 (a_cons (e_ix (e_var (i := 4) rfl (.inl rfl)) (e_f (ok_law_next T) hr (by decide) tk1 (a_cons (e_var (i := 0) rfl (.inl rfl)) (a_cons (e_var (i := 1) rfl (.inl rfl)) (a_cons e_int a_nil))) (mCons_len (mCons_len (mCons_len mNil_len))) rfl) (fun _ _ => rfl)) a_nil) (mCons_len mNil_len) rfl)))) (fun c1 hc1 cv1 fs a oe d pn hm1 hz1 hf1 => by
    simp only [List.mem_cons, List.not_mem_nil, or_false] at hc1
    rcases hc1 with rfl
    · obtain ⟨C0, hC0, q0⟩ := T.q_BadMessage
      cases hm1.symm.trans hC0
      exact (ss_one' (ss_ret (sp_and (let ⟨CD, hD, kD⟩ := T.i_BadMessage_MillError hC0; sp_is q0 hz1.zc hf1 (i := 5) rfl (.inl rfl) (pe_glob (v := .ref CD) rfl hD rfl (by decide)) (fun _ z => z) kD rfl T.b_isinstance) (sp_one (sp_not (let ⟨CD, hD, kD⟩ := T.i_BadMessage_BadText hC0; sp_is q0 hz1.zc hf1 (i := 5) rfl (.inl rfl) (pe_glob (v := .ref CD) rfl hD rfl (by decide)) (fun _ z => z) kD rfl T.b_isinstance))))))))
    (ss_one (s_ret e_bl)))))))
theorem ok_law_told (T : Txt wd K mg) : OkF P wd K mg base "_law_told" 7 1 Mi.m_law_told_2 := OkF.mk' (k := 6) (b := Mi.b_law_told_2) T.h_law_told sc_law_told rfl rfl rfl fun f cdv A outer s H E hr =>
  (ss_one (s_tryAs (i := 2) rfl rfl sc_law_told.nd rfl rfl rfl (L2N.takes_of rfl rfl rfl rfl) T.k_BadMessage (fun W1 pn1 xe1 tk1 hp1 => (ss_cons (s_set (i := 1) sc_law_told.nd rfl (.inl rfl) (e_f (ok_read_key T) hr (by decide) tk1 (a_cons (e_var (i := 0) rfl (.inl rfl)) a_nil) (mCons_len mNil_len) rfl))
    (ss_one (s_ret (e_if (c_val (e_cb call_isi s_isi rfl T.b_isinstance bl_isinstance (a_cons (e_var (i := 1) rfl (.inl rfl)) (a_cons (e_ty T.b_list bl_list rfl) a_nil)))) (e_lst (a_cons e_str a_nil)) (e_var (i := 1) rfl (.inl rfl))))))) (fun c1 hc1 cv1 fs a oe d pn hm1 hz1 hf1 => by
    simp only [List.mem_cons, List.not_mem_nil, or_false] at hc1
    rcases hc1 with rfl
    · obtain ⟨C0, hC0, q0⟩ := T.q_BadMessage
      cases hm1.symm.trans hC0
      exact (ss_one' (ss_ret (sp_lst (sa_cons (sp_of e_str) (sa_cons (sp_and (let ⟨CD, hD, kD⟩ := T.i_BadMessage_MillError hC0; sp_is q0 hz1.zc hf1 (i := 2) rfl (.inl rfl) (pe_glob (v := .ref CD) rfl hD rfl (by decide)) (fun _ z => z) kD rfl T.b_isinstance) (sp_one (sp_not (let ⟨CD, hD, kD⟩ := T.i_BadMessage_BadText hC0; sp_is q0 hz1.zc hf1 (i := 2) rfl (.inl rfl) (pe_glob (v := .ref CD) rfl hD rfl (by decide)) (fun _ z => z) kD rfl T.b_isinstance)))) (sa_of a_nil)))))))))
theorem ok_law_same (T : Txt wd K mg) : ∀ n : Nat, OkF P wd K mg base "_law_same" (1 + n) 2 (Mi.mm_law_same n)
  | 0 => OkF.zero (k := 1) T.h_law_same rfl
  | n + 1 => OkF.mk' (k := 1 + n) (b := Mi.b_law_same (Mi.mm_law_same n)) T.h_law_same sc_law_same rfl rfl rfl fun f cdv A outer s H E hr =>
  (ss_cons (s_if (c_cmp op_isN s_is (e_var (i := 1) rfl (.inl rfl)) e_non (nomark _)) (ss_one (s_ret (e_cmp op_isN s_is (e_var (i := 0) rfl (.inl rfl)) e_non (nomark _)))) ss_nil)
    (ss_cons (s_if (c_val (e_cb call_isi s_isi rfl T.b_isinstance bl_isinstance (a_cons (e_var (i := 1) rfl (.inl rfl)) (a_cons (e_ty T.b_tuple bl_tuple rfl) a_nil)))) (ss_cons (s_if (c_w (w_or (c_not (c_val (e_cb call_isi s_isi rfl T.b_isinstance bl_isinstance (a_cons (e_var (i := 0) rfl (.inl rfl)) (a_cons (e_ty T.b_tuple bl_tuple rfl) a_nil))))) (w_or1 (c_cmp (o_ne hr.units) s_ne (e_cb call_len s_len rfl T.b_len bl_len (a_cons (e_var (i := 0) rfl (.inl rfl)) a_nil)) (e_cb call_len s_len rfl T.b_len bl_len (a_cons (e_var (i := 1) rfl (.inl rfl)) a_nil)) (nomark _))))) (ss_one (s_ret e_bl)) ss_nil)
    (ss_cons (s_for (passes_of rfl) rfl (pg_name (i := 2) sc_law_same.nd rfl (.inl rfl)) (g_nm 2) (i_rng1 T.b_range rfl (a_cons (e_cb call_len s_len rfl T.b_len bl_len (a_cons (e_var (i := 1) rfl (.inl rfl)) a_nil)) a_nil)) (ss_one (s_if (c_not (c_val (e_f (ok_law_same T n) hr (by omega) (L2N.takes_of rfl rfl rfl rfl) (a_cons (e_ix (e_var (i := 0) rfl (.inl rfl)) (e_var (i := 2) rfl (.inl rfl)) (fun _ _ => rfl)) (a_cons (e_ix (e_var (i := 1) rfl (.inl rfl)) (e_var (i := 2) rfl (.inl rfl)) (fun _ _ => rfl)) a_nil)) (mCons_len (mCons_len mNil_len)) rfl))) (ss_one (s_ret e_bl)) ss_nil)))
    (ss_one (s_ret e_bl)))) ss_nil)
    (ss_cons (s_if (c_val (e_cb call_isi s_isi rfl T.b_isinstance bl_isinstance (a_cons (e_var (i := 1) rfl (.inl rfl)) (a_cons (e_ty T.b_bool bl_bool rfl) a_nil)))) (ss_one (s_ret (e_and (e_cb call_isi s_isi rfl T.b_isinstance bl_isinstance (a_cons (e_var (i := 0) rfl (.inl rfl)) (a_cons (e_ty T.b_bool bl_bool rfl) a_nil))) (e_one (e_cmp (o_eq hr.units) s_eq (e_var (i := 0) rfl (.inl rfl)) (e_var (i := 1) rfl (.inl rfl)) (nomark _)))))) ss_nil)
    (ss_cons (s_if (c_val (e_cb call_isi s_isi rfl T.b_isinstance bl_isinstance (a_cons (e_var (i := 1) rfl (.inl rfl)) (a_cons (e_ty T.b_int bl_int rfl) a_nil)))) (ss_one (s_ret (e_and (e_cb call_isi s_isi rfl T.b_isinstance bl_isinstance (a_cons (e_var (i := 0) rfl (.inl rfl)) (a_cons (e_ty T.b_int bl_int rfl) a_nil))) (e_and (e_not (e_cb call_isi s_isi rfl T.b_isinstance bl_isinstance (a_cons (e_var (i := 0) rfl (.inl rfl)) (a_cons (e_ty T.b_bool bl_bool rfl) a_nil)))) (e_one (e_cmp (o_eq hr.units) s_eq (e_var (i := 0) rfl (.inl rfl)) (e_var (i := 1) rfl (.inl rfl)) (nomark _))))))) ss_nil)
    (ss_one (s_ret (e_and (e_cb call_isi s_isi rfl T.b_isinstance bl_isinstance (a_cons (e_var (i := 0) rfl (.inl rfl)) (a_cons (e_ty T.b_str bl_str rfl) a_nil))) (e_one (e_cmp (o_eq hr.units) s_eq (e_var (i := 0) rfl (.inl rfl)) (e_var (i := 1) rfl (.inl rfl)) (nomark _))))))))))
theorem okm_law_same (T : Txt wd K mg) : OkF P wd K mg base "_law_same" 13 2 Mi.m_law_same := ok_law_same T 12
theorem ok_law_key_right (T : Txt wd K mg) : OkF P wd K mg base "_law_key_right" 14 2 Mi.m_law_key_right_2 := OkF.mk' (k := 13) (b := Mi.b_law_key_right_2) T.h_law_key_right sc_law_key_right rfl rfl rfl fun f cdv A outer s H E hr =>
  (ss_cons (s_set (i := 2) sc_law_key_right.nd rfl (.inl rfl) (e_f (ok_law_drawn_tool T) hr (by decide) (L2N.takes_of rfl rfl rfl rfl) (a_cons (e_var (i := 0) rfl (.inr (.inl rfl))) (a_cons (e_var (i := 1) rfl (.inr (.inl rfl))) a_nil)) (mCons_len (mCons_len mNil_len)) rfl))
    (ss_cons (s_set (i := 3) sc_law_key_right.nd rfl (.inr rfl) (e_f (ok_law_next T) hr (by decide) (L2N.takes_of rfl rfl rfl rfl) (a_cons (e_var (i := 0) rfl (.inr (.inl rfl))) (a_cons (e_var (i := 1) rfl (.inr (.inl rfl))) (a_cons (e_ix (e_lst (a_cons e_int (a_cons e_int (a_cons e_int a_nil)))) (e_f (ok_law_next T) hr (by decide) (L2N.takes_of rfl rfl rfl rfl) (a_cons (e_var (i := 0) rfl (.inr (.inl rfl))) (a_cons (e_var (i := 1) rfl (.inr (.inl rfl))) (a_cons e_int a_nil))) (mCons_len (mCons_len (mCons_len mNil_len))) rfl) (fun _ _ => rfl)) a_nil))) (mCons_len (mCons_len (mCons_len mNil_len))) rfl))
    (ss_cons (s_set (i := 4) sc_law_key_right.nd rfl (.inl rfl) (e_cty call_tuple_of s_tupleOf rfl T.b_tuple bl_tuple (a_cons (e_comp (own := [("k", 10)]) rfl sc_law_key_right.nd (blkOk_by (own := [("k", 10)]) (N := N_law_key_right) (sc := defScope s_law_key_right) (by decide +kernel)) (by decide) (g_nm 10) (i_rng1 T.b_range rfl (a_cons (e_var (i := 3) rfl (.inr (.inl rfl))) a_nil)) (fun _ _ _ _ _ => (pg_name (i := 10) sc_law_key_right.nd rfl (by exact .inl rfl))) (fun _ _ _ _ _ => ts_nil) (fun _ _ _ _ _ => (e_ix (e_lst (a_cons e_str (a_cons e_str (a_cons e_str (a_cons (e_bin o_mul s_mul e_str e_int) (a_cons (e_bin o_mul s_mul e_str e_int) (a_cons (e_bin o_mul s_mul e_str e_int) a_nil))))))) (e_f (ok_law_next T) hr (by decide) none_out (a_cons (e_var (i := 0) rfl (by exact .inr (.inl rfl))) (a_cons (e_var (i := 1) rfl (by exact .inr (.inl rfl))) (a_cons (e_bin op_sub s_sub e_int (e_cty call_int1 s_int rfl T.b_int bl_int (a_cons (e_cmp o_gt s_cmp (e_var (i := 3) rfl (by exact .inr (.inl rfl))) e_int (nomark _)) a_nil))) a_nil))) (mCons_len (mCons_len (mCons_len mNil_len))) rfl) (fun _ _ => rfl)))) a_nil)))
    (ss_cons (s_set (i := 3) sc_law_key_right.nd rfl (.inr rfl) (e_f (ok_law_next T) hr (by decide) (L2N.takes_of rfl rfl rfl rfl) (a_cons (e_var (i := 0) rfl (.inr (.inl rfl))) (a_cons (e_var (i := 1) rfl (.inr (.inl rfl))) (a_cons (e_ix (e_lst (a_cons e_int (a_cons e_int (a_cons e_int a_nil)))) (e_f (ok_law_next T) hr (by decide) (L2N.takes_of rfl rfl rfl rfl) (a_cons (e_var (i := 0) rfl (.inr (.inl rfl))) (a_cons (e_var (i := 1) rfl (.inr (.inl rfl))) (a_cons e_int a_nil))) (mCons_len (mCons_len (mCons_len mNil_len))) rfl) (fun _ _ => rfl)) a_nil))) (mCons_len (mCons_len (mCons_len mNil_len))) rfl))
    (ss_cons (s_set (i := 5) sc_law_key_right.nd rfl (.inl rfl) (e_cty call_tuple_of s_tupleOf rfl T.b_tuple bl_tuple (a_cons (e_comp (own := [("k", 10)]) rfl sc_law_key_right.nd (blkOk_by (own := [("k", 10)]) (N := N_law_key_right) (sc := defScope s_law_key_right) (by decide +kernel)) (by decide) (g_nm 10) (i_rng1 T.b_range rfl (a_cons (e_var (i := 3) rfl (.inr (.inl rfl))) a_nil)) (fun _ _ _ _ _ => (pg_name (i := 10) sc_law_key_right.nd rfl (by exact .inl rfl))) (fun _ _ _ _ _ => ts_nil) (fun _ _ _ _ _ => (e_ix (e_lst (a_cons e_int (a_cons e_int (a_cons e_int (a_cons e_int (a_cons e_int (a_cons e_int (a_cons e_int (a_cons e_int (a_cons e_int a_nil)))))))))) (e_f (ok_law_next T) hr (by decide) none_out (a_cons (e_var (i := 0) rfl (by exact .inr (.inl rfl))) (a_cons (e_var (i := 1) rfl (by exact .inr (.inl rfl))) (a_cons (e_bin op_sub s_sub e_int (e_bin o_mul s_mul e_int (e_cty call_int1 s_int rfl T.b_int bl_int (a_cons (e_cmp o_gt s_cmp (e_var (i := 3) rfl (by exact .inr (.inl rfl))) e_int (nomark _)) a_nil)))) a_nil))) (mCons_len (mCons_len (mCons_len mNil_len))) rfl) (fun _ _ => rfl)))) a_nil)))
    (ss_cons (s_set (i := 6) sc_law_key_right.nd rfl (.inl rfl) (e_lst (a_cons (e_comp (own := [("arg", 11)]) rfl sc_law_key_right.nd (blkOk_by (own := [("arg", 11)]) (N := N_law_key_right) (sc := defScope s_law_key_right) (by decide +kernel)) (by decide) (g_nm 11) (i_any (e_var (i := 4) rfl (.inl rfl))) (fun _ _ _ _ _ => (pg_name (i := 11) sc_law_key_right.nd rfl (by exact .inl rfl))) (fun _ _ _ _ _ => ts_nil) (fun _ _ _ _ _ => (e_bin o_add s_add e_str (e_var (i := 11) rfl (by exact .inl rfl))))) (a_cons (e_comp (own := [("name", 12)]) rfl sc_law_key_right.nd (blkOk_by (own := [("name", 12)]) (N := N_law_key_right) (sc := defScope s_law_key_right) (by decide +kernel)) (by decide) (g_nm 12) (i_any (e_var (i := 5) rfl (.inl rfl))) (fun _ _ _ _ _ => (pg_name (i := 12) sc_law_key_right.nd rfl (by exact .inl rfl))) (fun _ _ _ _ _ => ts_nil) (fun _ _ _ _ _ => (e_bin o_add s_add e_str (e_cty call_str_int s_str rfl T.b_str bl_str (a_cons (e_var (i := 12) rfl (by exact .inl rfl)) a_nil))))) a_nil))))
    (ss_cons (s_set (i := 7) sc_law_key_right.nd rfl (.inl rfl) (e_met PySem.F.plainAttrs_str PySem.F.slot_str_join PySem.F.type_str_join mt_join s_join.met e_str (a_cons (e_comp (own := [("line", 13)]) rfl sc_law_key_right.nd (blkOk_by (own := [("line", 13)]) (N := N_law_key_right) (sc := defScope s_law_key_right) (by decide +kernel)) (by decide) (g_nm 13) (i_any (e_bin o_add s_add (e_bin o_add s_add (e_lst (a_cons (e_var (i := 2) rfl (.inl rfl)) a_nil)) (e_ix (e_var (i := 6) rfl (.inl rfl)) e_int (fun _ _ => rfl))) (e_ix (e_var (i := 6) rfl (.inl rfl)) e_int (fun _ _ => rfl)))) (fun _ _ _ _ _ => (pg_name (i := 13) sc_law_key_right.nd rfl (by exact .inl rfl))) (fun _ _ _ _ _ => ts_nil) (fun _ _ _ _ _ => (e_bin o_add s_add (e_var (i := 13) rfl (by exact .inl rfl)) e_str))) a_nil)))
    (ss_cons (s_if (c_cmp (o_eq hr.units) s_eq (e_f (ok_law_next T) hr (by decide) (L2N.takes_of rfl rfl rfl rfl) (a_cons (e_var (i := 0) rfl (.inr (.inl rfl))) (a_cons (e_var (i := 1) rfl (.inr (.inl rfl))) (a_cons e_int a_nil))) (mCons_len (mCons_len (mCons_len mNil_len))) rfl) e_int (nomark _)) (ss_one (s_ret (e_cmp (o_eq hr.units) s_eq (e_f (ok_law_told T) hr (by decide) (L2N.takes_of rfl rfl rfl rfl) (a_cons (e_f (ok_law_turned T) hr (by decide) (L2N.takes_of rfl rfl rfl rfl) (a_cons (e_var (i := 0) rfl (.inr (.inl rfl))) (a_cons (e_var (i := 1) rfl (.inr (.inl rfl))) (a_cons (e_var (i := 2) rfl (.inl rfl)) (a_cons (e_var (i := 6) rfl (.inl rfl)) a_nil)))) (mCons_len (mCons_len (mCons_len (mCons_len mNil_len)))) rfl) a_nil) (mCons_len mNil_len) rfl) (e_lst (a_cons e_str (a_cons e_bl a_nil))) (nomark _)))) ss_nil)
    (ss_cons (s_set (i := 8) sc_law_key_right.nd rfl (.inl rfl) (e_and (e_f (ok_law_is_word T) hr (by decide) (L2N.takes_of rfl rfl rfl rfl) (a_cons (e_var (i := 2) rfl (.inl rfl)) a_nil) (mCons_len mNil_len) rfl) (e_and (e_cmp o_lt s_cmp (e_cb call_len s_len rfl T.b_len bl_len (a_cons (e_var (i := 4) rfl (.inl rfl)) a_nil)) e_int (nomark _)) (e_and (e_cmp o_lt s_cmp (e_cb call_len s_len rfl T.b_len bl_len (a_cons (e_var (i := 5) rfl (.inl rfl)) a_nil)) e_int (nomark _)) (e_and (e_cmp o_notIn s_notIn (e_bin o_mul s_mul e_str e_int) (e_var (i := 4) rfl (.inl rfl)) rfl) (e_and (e_cmp o_notIn s_notIn e_int (e_var (i := 5) rfl (.inl rfl)) rfl) (e_one (e_cmp o_notIn s_notIn e_int (e_var (i := 5) rfl (.inl rfl)) rfl))))))))
    (ss_cons (s_set (i := 9) sc_law_key_right.nd rfl (.inl rfl) (e_f (ok_law_told T) hr (by decide) (L2N.takes_of rfl rfl rfl rfl) (a_cons (e_var (i := 7) rfl (.inl rfl)) a_nil) (mCons_len mNil_len) rfl))
    (ss_cons (s_if (c_not (c_val (e_var (i := 8) rfl (.inl rfl)))) (ss_one (s_ret (e_cmp (o_eq hr.units) s_eq (e_var (i := 9) rfl (.inl rfl)) (e_lst (a_cons e_str (a_cons e_bl a_nil))) (nomark _)))) ss_nil)
    (ss_one (s_ret (e_and (e_f (okm_law_same T) hr (by decide) (L2N.takes_of rfl rfl rfl rfl) (a_cons (e_var (i := 9) rfl (.inl rfl)) (a_cons (e_tup (a_cons (e_var (i := 2) rfl (.inl rfl)) (a_cons (e_var (i := 4) rfl (.inl rfl)) (a_cons (e_var (i := 5) rfl (.inl rfl)) a_nil)))) a_nil)) (mCons_len (mCons_len mNil_len)) rfl) (e_one (e_f (okm_law_same T) hr (by decide) (L2N.takes_of rfl rfl rfl rfl) (a_cons (e_f (ok_key_text T) hr (by decide) (L2N.takes_of rfl rfl rfl rfl) (a_cons (e_tup (a_cons (e_var (i := 2) rfl (.inl rfl)) (a_cons (e_var (i := 4) rfl (.inl rfl)) (a_cons (e_var (i := 5) rfl (.inl rfl)) a_nil)))) a_nil) (mCons_len mNil_len) rfl) (a_cons (e_var (i := 7) rfl (.inl rfl)) a_nil)) (mCons_len (mCons_len mNil_len)) rfl))))))))))))))))
theorem ok_law_claim_right (T : Txt wd K mg) : OkF P wd K mg base "_law_claim_right" 14 2 Mi.m_law_claim_right := OkF.mk' (k := 13) (b := Mi.b_law_claim_right) T.h_law_claim_right sc_law_claim_right rfl rfl rfl fun f cdv A outer s H E hr =>
  (ss_cons (s_set (i := 2) sc_law_claim_right.nd rfl (.inl rfl) (e_ix (e_lst (a_cons e_str (a_cons e_str a_nil))) (e_f (ok_law_next T) hr (by decide) (L2N.takes_of rfl rfl rfl rfl) (a_cons (e_var (i := 0) rfl (.inr (.inl rfl))) (a_cons (e_var (i := 1) rfl (.inr (.inl rfl))) (a_cons e_int a_nil))) (mCons_len (mCons_len (mCons_len mNil_len))) rfl) (fun _ _ => rfl)))
    (ss_cons (s_set (i := 3) sc_law_claim_right.nd rfl (.inl rfl) (e_met PySem.F.plainAttrs_str PySem.F.slot_str_join PySem.F.type_str_join mt_join s_join.met e_str (a_cons (e_comp (own := [("k", 9)]) rfl sc_law_claim_right.nd (blkOk_by (own := [("k", 9)]) (N := N_law_claim_right) (sc := defScope s_law_claim_right) (by decide +kernel)) (by decide) (g_nm 9) (i_rng1 T.b_range rfl (a_cons (e_f (ok_law_next T) hr (by decide) (L2N.takes_of rfl rfl rfl rfl) (a_cons (e_var (i := 0) rfl (.inr (.inl rfl))) (a_cons (e_var (i := 1) rfl (.inr (.inl rfl))) (a_cons e_int a_nil))) (mCons_len (mCons_len (mCons_len mNil_len))) rfl) a_nil)) (fun _ _ _ _ _ => (pg_name (i := 9) sc_law_claim_right.nd rfl (by exact .inl rfl))) (fun _ _ _ _ _ => ts_nil) (fun _ _ _ _ _ => (e_f (ok_law_char T) hr (by decide) none_out (a_cons (e_f (ok_law_next T) hr (by decide) none_out (a_cons (e_var (i := 0) rfl (by exact .inr (.inl rfl))) (a_cons (e_var (i := 1) rfl (by exact .inr (.inl rfl))) (a_cons e_int a_nil))) (mCons_len (mCons_len (mCons_len mNil_len))) rfl) a_nil) (mCons_len mNil_len) rfl))) a_nil)))
    (ss_cons (s_set (i := 3) sc_law_claim_right.nd rfl (.inl rfl) (e_bin o_add s_add (e_var (i := 3) rfl (.inl rfl)) (e_bin o_mul s_mul e_str (e_f (ok_law_next T) hr (by decide) (L2N.takes_of rfl rfl rfl rfl) (a_cons (e_var (i := 0) rfl (.inr (.inl rfl))) (a_cons (e_var (i := 1) rfl (.inr (.inl rfl))) (a_cons e_int a_nil))) (mCons_len (mCons_len (mCons_len mNil_len))) rfl))))
    (ss_cons (s_if (c_cmp (o_eq hr.units) s_eq (e_f (ok_law_next T) hr (by decide) (L2N.takes_of rfl rfl rfl rfl) (a_cons (e_var (i := 0) rfl (.inr (.inl rfl))) (a_cons (e_var (i := 1) rfl (.inr (.inl rfl))) (a_cons e_int a_nil))) (mCons_len (mCons_len (mCons_len mNil_len))) rfl) e_int (nomark _)) (ss_one (s_set (i := 3) sc_law_claim_right.nd rfl (.inl rfl) (e_bin o_mul s_mul e_str (e_bin o_add s_add e_int (e_f (ok_law_next T) hr (by decide) (L2N.takes_of rfl rfl rfl rfl) (a_cons (e_var (i := 0) rfl (.inr (.inl rfl))) (a_cons (e_var (i := 1) rfl (.inr (.inl rfl))) (a_cons e_int a_nil))) (mCons_len (mCons_len (mCons_len mNil_len))) rfl))))) ss_nil)
    (ss_cons (s_if (c_cmp (o_eq hr.units) s_eq (e_f (ok_law_next T) hr (by decide) (L2N.takes_of rfl rfl rfl rfl) (a_cons (e_var (i := 0) rfl (.inr (.inl rfl))) (a_cons (e_var (i := 1) rfl (.inr (.inl rfl))) (a_cons e_int a_nil))) (mCons_len (mCons_len (mCons_len mNil_len))) rfl) e_int (nomark _)) (ss_one (s_set (i := 3) sc_law_claim_right.nd rfl (.inl rfl) (e_bin o_add s_add (e_bin o_mul s_mul e_str e_int) (e_sl e_str o_none (o_some (e_bin o_add s_add e_int (e_f (ok_law_next T) hr (by decide) (L2N.takes_of rfl rfl rfl rfl) (a_cons (e_var (i := 0) rfl (.inr (.inl rfl))) (a_cons (e_var (i := 1) rfl (.inr (.inl rfl))) (a_cons e_int a_nil))) (mCons_len (mCons_len (mCons_len mNil_len))) rfl))))))) ss_nil)
    (ss_cons (s_if (c_cmp (o_eq hr.units) s_eq (e_f (ok_law_next T) hr (by decide) (L2N.takes_of rfl rfl rfl rfl) (a_cons (e_var (i := 0) rfl (.inr (.inl rfl))) (a_cons (e_var (i := 1) rfl (.inr (.inl rfl))) (a_cons e_int a_nil))) (mCons_len (mCons_len (mCons_len mNil_len))) rfl) e_int (nomark _)) (ss_one (s_set (i := 3) sc_law_claim_right.nd rfl (.inl rfl) (e_bin o_add s_add (e_var (i := 3) rfl (.inl rfl)) e_str))) ss_nil)
    (ss_cons (s_set (i := 4) sc_law_claim_right.nd rfl (.inl rfl) (e_bin o_add s_add (e_bin o_add s_add (e_var (i := 2) rfl (.inl rfl)) e_str) (e_var (i := 3) rfl (.inl rfl))))
    (ss_cons (s_set (i := 5) sc_law_claim_right.nd rfl (.inl rfl) (e_or (e_and (e_cmp (o_eq hr.units) s_eq (e_var (i := 2) rfl (.inl rfl)) e_str (nomark _)) (e_one (e_cmp o_lt s_cmp (e_cb call_len s_len rfl T.b_len bl_len (a_cons (e_var (i := 3) rfl (.inl rfl)) a_nil)) e_int (nomark _)))) (e_one (e_and (e_cmp o_lt s_cmp (e_cb call_len s_len rfl T.b_len bl_len (a_cons (e_var (i := 3) rfl (.inl rfl)) a_nil)) e_int (nomark _)) (e_one (e_cmp o_notIn s_notIn e_str (e_var (i := 3) rfl (.inl rfl)) rfl))))))
    (ss_cons (s_if (c_w (w_and (c_val (e_var (i := 5) rfl (.inl rfl))) (w_and (c_cmp o_notIn s_notIn e_str (e_var (i := 3) rfl (.inl rfl)) rfl) (w_and1 (c_not (c_val (e_f (okm_law_same T) hr (by decide) (L2N.takes_of rfl rfl rfl rfl) (a_cons (e_f (ok_claim_text T) hr (by decide) (L2N.takes_of rfl rfl rfl rfl) (a_cons (e_tup (a_cons (e_var (i := 2) rfl (.inl rfl)) (a_cons (e_var (i := 3) rfl (.inl rfl)) a_nil))) a_nil) (mCons_len mNil_len) rfl) (a_cons (e_var (i := 4) rfl (.inl rfl)) a_nil)) (mCons_len (mCons_len mNil_len)) rfl))))))) (ss_one (s_ret e_bl)) ss_nil)
    (ss_cons (s_set (i := 6) sc_law_claim_right.nd rfl (.inl rfl) (e_or (e_and (e_cmp (o_eq hr.units) s_eq (e_var (i := 2) rfl (.inl rfl)) e_str (nomark _)) (e_one (e_cmp o_lt s_cmp (e_cb call_len s_len rfl T.b_len bl_len (a_cons (e_var (i := 3) rfl (.inl rfl)) a_nil)) e_int (nomark _)))) (e_one (e_and (e_cmp o_lt s_cmp (e_cb call_len s_len rfl T.b_len bl_len (a_cons (e_var (i := 3) rfl (.inl rfl)) a_nil)) e_int (nomark _)) (e_one (e_cmp o_notIn s_notIn e_str (e_var (i := 3) rfl (.inl rfl)) rfl))))))
    (ss_cons (s_set (i := 6) sc_law_claim_right.nd rfl (.inl rfl) (e_and (e_var (i := 6) rfl (.inl rfl)) (e_one (e_cmp o_notIn s_notIn e_str (e_var (i := 3) rfl (.inl rfl)) rfl))))
    (ss_cons (s_tryAs (i := 8) rfl rfl sc_law_claim_right.nd rfl rfl rfl (L2N.takes_of rfl rfl rfl rfl) T.k_BadMessage (fun W1 pn1 xe1 tk1 hp1 => (ss_one (s_set (i := 7) sc_law_claim_right.nd rfl (.inl rfl) (e_f (ok_read_claim T) hr (by decide) tk1 (a_cons (e_var (i := 4) rfl (.inl rfl)) a_nil) (mCons_len mNil_len) rfl)))) (fun c1 hc1 cv1 fs a oe d pn hm1 hz1 hf1 => by
    simp only [List.mem_cons, List.not_mem_nil, or_false] at hc1
    rcases hc1 with rfl
    · obtain ⟨C0, hC0, q0⟩ := T.q_BadMessage
      cases hm1.symm.trans hC0
      exact (ss_one' (ss_ret (sp_and (sp_of (e_not (e_var (i := 6) rfl (.inl rfl)))) (sp_one (let ⟨CD, hD, kD⟩ := T.i_BadMessage_MillError hC0; sp_is q0 hz1.zc hf1 (i := 8) rfl (.inl rfl) (pe_glob (v := .ref CD) rfl hD rfl (by decide)) (fun _ z => z) kD rfl T.b_isinstance)))))))
    (ss_one (s_ret (e_and (e_var (i := 6) rfl (.inl rfl)) (e_one (e_f (okm_law_same T) hr (by decide) (L2N.takes_of rfl rfl rfl rfl) (a_cons (e_var (i := 7) rfl (.inl rfl)) (a_cons (e_tup (a_cons (e_var (i := 2) rfl (.inl rfl)) (a_cons (e_var (i := 3) rfl (.inl rfl)) a_nil))) a_nil)) (mCons_len (mCons_len mNil_len)) rfl)))))))))))))))))
theorem okfn_law {f : Addr} {fd : FuncData} (T : Txt wd K mg) (F : Fun K "law" "law" s_law f fd) : FnOk P wd K mg base (L2N.CX P wd) 15 f fd ["script"] (spM K mg 1 Mi.m_law_10) := okfn' (k := 14) (b := Mi.b_law_10) F sc_law rfl rfl rfl fun cdv A outer s H E hr =>
  (ss_cons (s_set (i := 1) sc_law.nd rfl (.inl rfl) (e_cel (a_cons e_int (a_cons e_int (a_cons e_int a_nil)))))
    (ss_cons (s_for (passes_of rfl) rfl (pg_name (i := 2) sc_law.nd rfl (.inl rfl)) (g_nm 2) (i_rng1 T.b_range rfl (a_cons e_int a_nil)) (ss_one (s_if (c_w (w_or (c_not (c_val (e_f (ok_law_key_right T) hr (by decide) (L2N.takes_of rfl rfl rfl rfl) (a_cons (e_var (i := 1) rfl (.inl rfl)) (a_cons (e_var (i := 0) rfl (.inl rfl)) a_nil)) (mCons_len (mCons_len mNil_len)) rfl))) (w_or (c_not (c_val (e_f (ok_law_claim_right T) hr (by decide) (L2N.takes_of rfl rfl rfl rfl) (a_cons (e_var (i := 1) rfl (.inl rfl)) (a_cons (e_var (i := 0) rfl (.inl rfl)) a_nil)) (mCons_len (mCons_len mNil_len)) rfl))) (w_or1 (c_not (c_val (e_f (ok_law_claim_refused T) hr (by decide) (L2N.takes_of rfl rfl rfl rfl) (a_cons (e_var (i := 1) rfl (.inl rfl)) (a_cons (e_var (i := 0) rfl (.inl rfl)) a_nil)) (mCons_len (mCons_len mNil_len)) rfl))))))) (ss_one (s_ret e_bl)) ss_nil)))
    (ss_one (s_ret e_bl))))
end
theorem end_ {l : PySem.W.OpenLaw} {w : World} {K : PySem.W.Frag} {h : Heap} {mg : Str → Option Value} {fa : Addr} (X : K.In h) (G : h.Ns mainGlobals mg) (hfa : mg "law" = some (.ref fa))
    {f1 : Addr} {oc1 kV1 dc1 pm1 cd1 ct1 : Value} {od1 an1 : Option Addr} {sl1 : Array (Option Value)}
    {f2 : Addr} {oc2 kV2 dc2 pm2 cd2 ct2 : Value} {od2 an2 : Option Addr} {sl2 : Array (Option Value)}
    {f3 : Addr} {oc3 kV3 dc3 pm3 cd3 ct3 : Value} {od3 an3 : Option Addr} {sl3 : Array (Option Value)}
    {f4 : Addr} {oc4 kV4 dc4 pm4 cd4 ct4 : Value} {od4 an4 : Option Addr} {sl4 : Array (Option Value)}
    {f5 : Addr} {oc5 kV5 dc5 pm5 cd5 ct5 : Value} {od5 an5 : Option Addr} {sl5 : Array (Option Value)}
    {f6 : Addr} {oc6 kV6 dc6 pm6 cd6 ct6 : Value} {od6 an6 : Option Addr} {sl6 : Array (Option Value)}
    {f7 : Addr} {oc7 kV7 dc7 pm7 cd7 ct7 : Value} {od7 an7 : Option Addr} {sl7 : Array (Option Value)}
    {f8 : Addr} {oc8 kV8 dc8 pm8 cd8 ct8 : Value} {od8 an8 : Option Addr} {sl8 : Array (Option Value)}
    {f9 : Addr} {oc9 kV9 dc9 pm9 cd9 ct9 : Value} {od9 an9 : Option Addr} {sl9 : Array (Option Value)}
    {f10 : Addr} {oc10 kV10 dc10 pm10 cd10 ct10 : Value} {od10 an10 : Option Addr} {sl10 : Array (Option Value)}
    {f11 : Addr} {oc11 kV11 dc11 pm11 cd11 ct11 : Value} {od11 an11 : Option Addr} {sl11 : Array (Option Value)}
    {f12 : Addr} {oc12 kV12 dc12 pm12 cd12 ct12 : Value} {od12 an12 : Option Addr} {sl12 : Array (Option Value)}
    {f13 : Addr} {oc13 kV13 dc13 pm13 cd13 ct13 : Value} {od13 an13 : Option Addr} {sl13 : Array (Option Value)}
    {f14 : Addr} {oc14 kV14 dc14 pm14 cd14 ct14 : Value} {od14 an14 : Option Addr} {sl14 : Array (Option Value)}
    {f15 : Addr} {oc15 kV15 dc15 pm15 cd15 ct15 : Value} {od15 an15 : Option Addr} {sl15 : Array (Option Value)}
    {f16 : Addr} {oc16 kV16 dc16 pm16 cd16 ct16 : Value} {od16 an16 : Option Addr} {sl16 : Array (Option Value)}
    {f17 : Addr} {oc17 kV17 dc17 pm17 cd17 ct17 : Value} {od17 an17 : Option Addr} {sl17 : Array (Option Value)}
    {f18 : Addr} {oc18 kV18 dc18 pm18 cd18 ct18 : Value} {od18 an18 : Option Addr} {sl18 : Array (Option Value)}
    {f19 : Addr} {oc19 kV19 dc19 pm19 cd19 ct19 : Value} {od19 an19 : Option Addr} {sl19 : Array (Option Value)}
    {f20 : Addr} {oc20 kV20 dc20 pm20 cd20 ct20 : Value} {od20 an20 : Option Addr} {sl20 : Array (Option Value)}
    {f21 : Addr} {oc21 kV21 dc21 pm21 cd21 ct21 : Value} {od21 an21 : Option Addr} {sl21 : Array (Option Value)}
    {f22 : Addr} {oc22 kV22 dc22 pm22 cd22 ct22 : Value} {od22 an22 : Option Addr} {sl22 : Array (Option Value)}
    {f23 : Addr} {oc23 kV23 dc23 pm23 cd23 ct23 : Value} {od23 an23 : Option Addr} {sl23 : Array (Option Value)}
    {f24 : Addr} {oc24 kV24 dc24 pm24 cd24 ct24 : Value} {od24 an24 : Option Addr} {sl24 : Array (Option Value)}
    {f25 : Addr} {oc25 kV25 dc25 pm25 cd25 ct25 : Value} {od25 an25 : Option Addr} {sl25 : Array (Option Value)}
    {f26 : Addr} {oc26 kV26 dc26 pm26 cd26 ct26 : Value} {od26 an26 : Option Addr} {sl26 : Array (Option Value)}
    {f27 : Addr} {oc27 kV27 dc27 pm27 cd27 ct27 : Value} {od27 an27 : Option Addr} {sl27 : Array (Option Value)}
    {f28 : Addr} {oc28 kV28 dc28 pm28 cd28 ct28 : Value} {od28 an28 : Option Addr} {sl28 : Array (Option Value)}
    {f29 : Addr} {oc29 kV29 dc29 pm29 cd29 ct29 : Value} {od29 an29 : Option Addr} {sl29 : Array (Option Value)}
    {ga_LONG_SIGNS : Addr} {gd_LONG_SIGNS : Option Addr} {gn_LONG_SIGNS : Nat} {gs_LONG_SIGNS : Array (Option Value)} {gt_LONG_SIGNS0 gt_LONG_SIGNS1 : Tok}
    {ga_ESCAPES : Addr} {gt_ESCAPES0 gt_ESCAPES1 gt_ESCAPES2 : Tok}
    {t_DIGITS : Tok}
    {t_LONGEST_ARG : Tok}
    {t_LONGEST_REASON : Tok}
    {t_LONGEST_TEXT : Tok}
    {t_LONGEST_VALUE : Tok}
    {t_LONGEST_WORD : Tok}
    {t_MOST_ARGS : Tok}
    {t_MOST_DIGITS : Tok}
    {t_MOST_NAMES : Tok}
    {t_PERCENT : Tok}
    {t_SIGNS : Tok}
    {t_WORD_SIGNS : Tok}
    {t_WORD_STARTS : Tok}
    {cz_BadMessage : Addr}
    {cz_BadText : Addr}
    {cz_MillError : Addr}
    {f0 : Addr} {oc0 kV0 dc0 pm0 cd0 ct0 : Value} {od0 an0 : Option Addr} {sl0 : Array (Option Value)}
    (a0 : PySem.W.nsIn K mainGlobals "law" = some (some (.ref f0))) (l0 : K.lookup f0 = some ⟨oc0, od0, .func (PySem.W.fnOf "law" "law" (defArgs s_law) (defBody s_law) (defScope s_law) .none kV0 dc0 pm0 an0 cd0 ct0), sl0⟩) (c0 : PySem.W.codeIn K cd0 "law" = true) (k0 : PySem.W.keepIn K (.ref f0) = true)
    (a1 : PySem.W.nsIn K mainGlobals "word_at" = some (some (.ref f1))) (l1 : K.lookup f1 = some ⟨oc1, od1, .func (PySem.W.fnOf "word_at" "word_at" (defArgs s_word_at) (defBody s_word_at) (defScope s_word_at) .none kV1 dc1 pm1 an1 cd1 ct1), sl1⟩) (c1 : PySem.W.codeIn K cd1 "word_at" = true) (k1 : PySem.W.keepIn K (.ref f1) = true)
    (a2 : PySem.W.nsIn K mainGlobals "quoted_token" = some (some (.ref f2))) (l2 : K.lookup f2 = some ⟨oc2, od2, .func (PySem.W.fnOf "quoted_token" "quoted_token" (defArgs s_quoted_token) (defBody s_quoted_token) (defScope s_quoted_token) .none kV2 dc2 pm2 an2 cd2 ct2), sl2⟩) (c2 : PySem.W.codeIn K cd2 "quoted_token" = true) (k2 : PySem.W.keepIn K (.ref f2) = true)
    (a3 : PySem.W.nsIn K mainGlobals "is_numeral" = some (some (.ref f3))) (l3 : K.lookup f3 = some ⟨oc3, od3, .func (PySem.W.fnOf "is_numeral" "is_numeral" (defArgs s_is_numeral) (defBody s_is_numeral) (defScope s_is_numeral) .none kV3 dc3 pm3 an3 cd3 ct3), sl3⟩) (c3 : PySem.W.codeIn K cd3 "is_numeral" = true) (k3 : PySem.W.keepIn K (.ref f3) = true)
    (a4 : PySem.W.nsIn K mainGlobals "is_plain" = some (some (.ref f4))) (l4 : K.lookup f4 = some ⟨oc4, od4, .func (PySem.W.fnOf "is_plain" "is_plain" (defArgs s_is_plain) (defBody s_is_plain) (defScope s_is_plain) .none kV4 dc4 pm4 an4 cd4 ct4), sl4⟩) (c4 : PySem.W.codeIn K cd4 "is_plain" = true) (k4 : PySem.W.keepIn K (.ref f4) = true)
    (a5 : PySem.W.nsIn K mainGlobals "key_text" = some (some (.ref f5))) (l5 : K.lookup f5 = some ⟨oc5, od5, .func (PySem.W.fnOf "key_text" "key_text" (defArgs s_key_text) (defBody s_key_text) (defScope s_key_text) .none kV5 dc5 pm5 an5 cd5 ct5), sl5⟩) (c5 : PySem.W.codeIn K cd5 "key_text" = true) (k5 : PySem.W.keepIn K (.ref f5) = true)
    (a6 : PySem.W.nsIn K mainGlobals "claim_text" = some (some (.ref f6))) (l6 : K.lookup f6 = some ⟨oc6, od6, .func (PySem.W.fnOf "claim_text" "claim_text" (defArgs s_claim_text) (defBody s_claim_text) (defScope s_claim_text) .none kV6 dc6 pm6 an6 cd6 ct6), sl6⟩) (c6 : PySem.W.codeIn K cd6 "claim_text" = true) (k6 : PySem.W.keepIn K (.ref f6) = true)
    (a7 : PySem.W.nsIn K mainGlobals "_law_next" = some (some (.ref f7))) (l7 : K.lookup f7 = some ⟨oc7, od7, .func (PySem.W.fnOf "_law_next" "_law_next" (defArgs s_law_next) (defBody s_law_next) (defScope s_law_next) .none kV7 dc7 pm7 an7 cd7 ct7), sl7⟩) (c7 : PySem.W.codeIn K cd7 "_law_next" = true) (k7 : PySem.W.keepIn K (.ref f7) = true)
    (a8 : PySem.W.nsIn K mainGlobals "_law_char" = some (some (.ref f8))) (l8 : K.lookup f8 = some ⟨oc8, od8, .func (PySem.W.fnOf "_law_char" "_law_char" (defArgs s_law_char) (defBody s_law_char) (defScope s_law_char) .none kV8 dc8 pm8 an8 cd8 ct8), sl8⟩) (c8 : PySem.W.codeIn K cd8 "_law_char" = true) (k8 : PySem.W.keepIn K (.ref f8) = true)
    (a9 : PySem.W.nsIn K mainGlobals "_law_reserved" = some (some (.ref f9))) (l9 : K.lookup f9 = some ⟨oc9, od9, .func (PySem.W.fnOf "_law_reserved" "_law_reserved" (defArgs s_law_reserved) (defBody s_law_reserved) (defScope s_law_reserved) .none kV9 dc9 pm9 an9 cd9 ct9), sl9⟩) (c9 : PySem.W.codeIn K cd9 "_law_reserved" = true) (k9 : PySem.W.keepIn K (.ref f9) = true)
    (a10 : PySem.W.nsIn K mainGlobals "_law_is_word" = some (some (.ref f10))) (l10 : K.lookup f10 = some ⟨oc10, od10, .func (PySem.W.fnOf "_law_is_word" "_law_is_word" (defArgs s_law_is_word) (defBody s_law_is_word) (defScope s_law_is_word) .none kV10 dc10 pm10 an10 cd10 ct10), sl10⟩) (c10 : PySem.W.codeIn K cd10 "_law_is_word" = true) (k10 : PySem.W.keepIn K (.ref f10) = true)
    (a11 : PySem.W.nsIn K mainGlobals "quoted_at" = some (some (.ref f11))) (l11 : K.lookup f11 = some ⟨oc11, od11, .func (PySem.W.fnOf "quoted_at" "quoted_at" (defArgs s_quoted_at) (defBody s_quoted_at) (defScope s_quoted_at) .none kV11 dc11 pm11 an11 cd11 ct11), sl11⟩) (c11 : PySem.W.codeIn K cd11 "quoted_at" = true) (k11 : PySem.W.keepIn K (.ref f11) = true)
    (a12 : PySem.W.nsIn K mainGlobals "text_fault" = some (some (.ref f12))) (l12 : K.lookup f12 = some ⟨oc12, od12, .func (PySem.W.fnOf "text_fault" "text_fault" (defArgs s_text_fault) (defBody s_text_fault) (defScope s_text_fault) .none kV12 dc12 pm12 an12 cd12 ct12), sl12⟩) (c12 : PySem.W.codeIn K cd12 "text_fault" = true) (k12 : PySem.W.keepIn K (.ref f12) = true)
    (a13 : PySem.W.nsIn K mainGlobals "is_name" = some (some (.ref f13))) (l13 : K.lookup f13 = some ⟨oc13, od13, .func (PySem.W.fnOf "is_name" "is_name" (defArgs s_is_name) (defBody s_is_name) (defScope s_is_name) .none kV13 dc13 pm13 an13 cd13 ct13), sl13⟩) (c13 : PySem.W.codeIn K cd13 "is_name" = true) (k13 : PySem.W.keepIn K (.ref f13) = true)
    (a14 : PySem.W.nsIn K mainGlobals "_law_drawn_tool" = some (some (.ref f14))) (l14 : K.lookup f14 = some ⟨oc14, od14, .func (PySem.W.fnOf "_law_drawn_tool" "_law_drawn_tool" (defArgs s_law_drawn_tool) (defBody s_law_drawn_tool) (defScope s_law_drawn_tool) .none kV14 dc14 pm14 an14 cd14 ct14), sl14⟩) (c14 : PySem.W.codeIn K cd14 "_law_drawn_tool" = true) (k14 : PySem.W.keepIn K (.ref f14) = true)
    (a15 : PySem.W.nsIn K mainGlobals "_law_turned" = some (some (.ref f15))) (l15 : K.lookup f15 = some ⟨oc15, od15, .func (PySem.W.fnOf "_law_turned" "_law_turned" (defArgs s_law_turned) (defBody s_law_turned) (defScope s_law_turned) .none kV15 dc15 pm15 an15 cd15 ct15), sl15⟩) (c15 : PySem.W.codeIn K cd15 "_law_turned" = true) (k15 : PySem.W.keepIn K (.ref f15) = true)
    (a16 : PySem.W.nsIn K mainGlobals "token_at" = some (some (.ref f16))) (l16 : K.lookup f16 = some ⟨oc16, od16, .func (PySem.W.fnOf "token_at" "token_at" (defArgs s_token_at) (defBody s_token_at) (defScope s_token_at) .none kV16 dc16 pm16 an16 cd16 ct16), sl16⟩) (c16 : PySem.W.codeIn K cd16 "token_at" = true) (k16 : PySem.W.keepIn K (.ref f16) = true)
    (a17 : PySem.W.nsIn K mainGlobals "is_short" = some (some (.ref f17))) (l17 : K.lookup f17 = some ⟨oc17, od17, .func (PySem.W.fnOf "is_short" "is_short" (defArgs s_is_short) (defBody s_is_short) (defScope s_is_short) .none kV17 dc17 pm17 an17 cd17 ct17), sl17⟩) (c17 : PySem.W.codeIn K cd17 "is_short" = true) (k17 : PySem.W.keepIn K (.ref f17) = true)
    (a18 : PySem.W.nsIn K mainGlobals "are_names" = some (some (.ref f18))) (l18 : K.lookup f18 = some ⟨oc18, od18, .func (PySem.W.fnOf "are_names" "are_names" (defArgs s_are_names) (defBody s_are_names) (defScope s_are_names) .none kV18 dc18 pm18 an18 cd18 ct18), sl18⟩) (c18 : PySem.W.codeIn K cd18 "are_names" = true) (k18 : PySem.W.keepIn K (.ref f18) = true)
    (a19 : PySem.W.nsIn K mainGlobals "tokens" = some (some (.ref f19))) (l19 : K.lookup f19 = some ⟨oc19, od19, .func (PySem.W.fnOf "tokens" "tokens" (defArgs s_tokens) (defBody s_tokens) (defScope s_tokens) .none kV19 dc19 pm19 an19 cd19 ct19), sl19⟩) (c19 : PySem.W.codeIn K cd19 "tokens" = true) (k19 : PySem.W.keepIn K (.ref f19) = true)
    (a20 : PySem.W.nsIn K mainGlobals "are_args" = some (some (.ref f20))) (l20 : K.lookup f20 = some ⟨oc20, od20, .func (PySem.W.fnOf "are_args" "are_args" (defArgs s_are_args) (defBody s_are_args) (defScope s_are_args) .none kV20 dc20 pm20 an20 cd20 ct20), sl20⟩) (c20 : PySem.W.codeIn K cd20 "are_args" = true) (k20 : PySem.W.keepIn K (.ref f20) = true)
    (a21 : PySem.W.nsIn K mainGlobals "is_told" = some (some (.ref f21))) (l21 : K.lookup f21 = some ⟨oc21, od21, .func (PySem.W.fnOf "is_told" "is_told" (defArgs s_is_told) (defBody s_is_told) (defScope s_is_told) .none kV21 dc21 pm21 an21 cd21 ct21), sl21⟩) (c21 : PySem.W.codeIn K cd21 "is_told" = true) (k21 : PySem.W.keepIn K (.ref f21) = true)
    (a22 : PySem.W.nsIn K mainGlobals "is_word" = some (some (.ref f22))) (l22 : K.lookup f22 = some ⟨oc22, od22, .func (PySem.W.fnOf "is_word" "is_word" (defArgs s_is_word) (defBody s_is_word) (defScope s_is_word) .none kV22 dc22 pm22 an22 cd22 ct22), sl22⟩) (c22 : PySem.W.codeIn K cd22 "is_word" = true) (k22 : PySem.W.keepIn K (.ref f22) = true)
    (a23 : PySem.W.nsIn K mainGlobals "read_claim" = some (some (.ref f23))) (l23 : K.lookup f23 = some ⟨oc23, od23, .func (PySem.W.fnOf "read_claim" "read_claim" (defArgs s_read_claim) (defBody s_read_claim) (defScope s_read_claim) .none kV23 dc23 pm23 an23 cd23 ct23), sl23⟩) (c23 : PySem.W.codeIn K cd23 "read_claim" = true) (k23 : PySem.W.keepIn K (.ref f23) = true)
    (a24 : PySem.W.nsIn K mainGlobals "read_key" = some (some (.ref f24))) (l24 : K.lookup f24 = some ⟨oc24, od24, .func (PySem.W.fnOf "read_key" "read_key" (defArgs s_read_key) (defBody s_read_key) (defScope s_read_key) .none kV24 dc24 pm24 an24 cd24 ct24), sl24⟩) (c24 : PySem.W.codeIn K cd24 "read_key" = true) (k24 : PySem.W.keepIn K (.ref f24) = true)
    (a25 : PySem.W.nsIn K mainGlobals "_law_claim_refused" = some (some (.ref f25))) (l25 : K.lookup f25 = some ⟨oc25, od25, .func (PySem.W.fnOf "_law_claim_refused" "_law_claim_refused" (defArgs s_law_claim_refused) (defBody s_law_claim_refused) (defScope s_law_claim_refused) .none kV25 dc25 pm25 an25 cd25 ct25), sl25⟩) (c25 : PySem.W.codeIn K cd25 "_law_claim_refused" = true) (k25 : PySem.W.keepIn K (.ref f25) = true)
    (a26 : PySem.W.nsIn K mainGlobals "_law_told" = some (some (.ref f26))) (l26 : K.lookup f26 = some ⟨oc26, od26, .func (PySem.W.fnOf "_law_told" "_law_told" (defArgs s_law_told) (defBody s_law_told) (defScope s_law_told) .none kV26 dc26 pm26 an26 cd26 ct26), sl26⟩) (c26 : PySem.W.codeIn K cd26 "_law_told" = true) (k26 : PySem.W.keepIn K (.ref f26) = true)
    (a27 : PySem.W.nsIn K mainGlobals "_law_same" = some (some (.ref f27))) (l27 : K.lookup f27 = some ⟨oc27, od27, .func (PySem.W.fnOf "_law_same" "_law_same" (defArgs s_law_same) (defBody s_law_same) (defScope s_law_same) .none kV27 dc27 pm27 an27 cd27 ct27), sl27⟩) (c27 : PySem.W.codeIn K cd27 "_law_same" = true) (k27 : PySem.W.keepIn K (.ref f27) = true)
    (a28 : PySem.W.nsIn K mainGlobals "_law_key_right" = some (some (.ref f28))) (l28 : K.lookup f28 = some ⟨oc28, od28, .func (PySem.W.fnOf "_law_key_right" "_law_key_right" (defArgs s_law_key_right) (defBody s_law_key_right) (defScope s_law_key_right) .none kV28 dc28 pm28 an28 cd28 ct28), sl28⟩) (c28 : PySem.W.codeIn K cd28 "_law_key_right" = true) (k28 : PySem.W.keepIn K (.ref f28) = true)
    (a29 : PySem.W.nsIn K mainGlobals "_law_claim_right" = some (some (.ref f29))) (l29 : K.lookup f29 = some ⟨oc29, od29, .func (PySem.W.fnOf "_law_claim_right" "_law_claim_right" (defArgs s_law_claim_right) (defBody s_law_claim_right) (defScope s_law_claim_right) .none kV29 dc29 pm29 an29 cd29 ct29), sl29⟩) (c29 : PySem.W.codeIn K cd29 "_law_claim_right" = true) (k29 : PySem.W.keepIn K (.ref f29) = true)
    (z_abs : PySem.W.nsIn K mainGlobals "abs" = some none)
    (z_all : PySem.W.nsIn K mainGlobals "all" = some none)
    (z_bool : PySem.W.nsIn K mainGlobals "bool" = some none)
    (z_int : PySem.W.nsIn K mainGlobals "int" = some none)
    (z_isinstance : PySem.W.nsIn K mainGlobals "isinstance" = some none)
    (z_len : PySem.W.nsIn K mainGlobals "len" = some none)
    (z_list : PySem.W.nsIn K mainGlobals "list" = some none)
    (z_ord : PySem.W.nsIn K mainGlobals "ord" = some none)
    (z_range : PySem.W.nsIn K mainGlobals "range" = some none)
    (z_str : PySem.W.nsIn K mainGlobals "str" = some none)
    (z_tuple : PySem.W.nsIn K mainGlobals "tuple" = some none)
    (q_LONG_SIGNS : PySem.W.nsIn K mainGlobals "LONG_SIGNS" = some (some (.ref ga_LONG_SIGNS))) (ql_LONG_SIGNS : K.lookup ga_LONG_SIGNS = some ⟨.type "tuple", gd_LONG_SIGNS, .seq #[.str "==" gt_LONG_SIGNS0, .str "!=" gt_LONG_SIGNS1] gn_LONG_SIGNS, gs_LONG_SIGNS⟩)
    (q_ESCAPES : PySem.W.nsIn K mainGlobals "ESCAPES" = some (some (.ref ga_ESCAPES))) (qd_ESCAPES : He.dicW K ga_ESCAPES = some (He.keysIn w.params ["\"", "\\", "n"]))
    (qv_ESCAPES0 : PySem.W.nsIn K ga_ESCAPES "\"" = some (some (.str "\"" gt_ESCAPES0)))
    (qv_ESCAPES1 : PySem.W.nsIn K ga_ESCAPES "\\" = some (some (.str "\\" gt_ESCAPES1)))
    (qv_ESCAPES2 : PySem.W.nsIn K ga_ESCAPES "n" = some (some (.str "\n" gt_ESCAPES2)))
    (q_DIGITS : PySem.W.nsIn K mainGlobals "DIGITS" = some (some (.str "0123456789" t_DIGITS)))
    (q_LONGEST_ARG : PySem.W.nsIn K mainGlobals "LONGEST_ARG" = some (some (.int 60 t_LONGEST_ARG)))
    (q_LONGEST_REASON : PySem.W.nsIn K mainGlobals "LONGEST_REASON" = some (some (.int 80 t_LONGEST_REASON)))
    (q_LONGEST_TEXT : PySem.W.nsIn K mainGlobals "LONGEST_TEXT" = some (some (.int 2000 t_LONGEST_TEXT)))
    (q_LONGEST_VALUE : PySem.W.nsIn K mainGlobals "LONGEST_VALUE" = some (some (.int 100 t_LONGEST_VALUE)))
    (q_LONGEST_WORD : PySem.W.nsIn K mainGlobals "LONGEST_WORD" = some (some (.int 20 t_LONGEST_WORD)))
    (q_MOST_ARGS : PySem.W.nsIn K mainGlobals "MOST_ARGS" = some (some (.int 12 t_MOST_ARGS)))
    (q_MOST_DIGITS : PySem.W.nsIn K mainGlobals "MOST_DIGITS" = some (some (.int 5 t_MOST_DIGITS)))
    (q_MOST_NAMES : PySem.W.nsIn K mainGlobals "MOST_NAMES" = some (some (.int 24 t_MOST_NAMES)))
    (q_PERCENT : PySem.W.nsIn K mainGlobals "PERCENT" = some (some (.int 37 t_PERCENT)))
    (q_SIGNS : PySem.W.nsIn K mainGlobals "SIGNS" = some (some (.str "{}[](),;=+" t_SIGNS)))
    (q_WORD_SIGNS : PySem.W.nsIn K mainGlobals "WORD_SIGNS" = some (some (.str "abcdefghijklmnopqrstuvwxyz0123456789_" t_WORD_SIGNS)))
    (q_WORD_STARTS : PySem.W.nsIn K mainGlobals "WORD_STARTS" = some (some (.str "abcdefghijklmnopqrstuvwxyz" t_WORD_STARTS)))
    (cn_BadMessage : PySem.W.nsIn K mainGlobals "BadMessage" = some (some (.ref cz_BadMessage)))
    (ek_BadMessage : PySem.W.excIn K cz_BadMessage veMro "ValueError.__new__" = true)
    (kp_BadMessage : PySem.W.keepIn K (.ref cz_BadMessage) = true)
    (sb_BadMessage : PySem.W.subIn K (.ref cz_BadMessage) (.type "BaseException") = some true)
    (ty_BadMessage : PySem.W.typeIn K (.ref cz_BadMessage) = some (.type "type"))
    (ic_BadMessage : (PySem.W.clsIn K cz_BadMessage).isSome = true)
    (ga_BadMessage : PySem.W.findIn K (.ref cz_BadMessage) "__getattribute__" = some (some (.builtin "BaseException.__getattribute__")))
    (gt_BadMessage : PySem.W.findIn K (.ref cz_BadMessage) "__getattr__" = some none)
    (gc_BadMessage : PySem.W.findIn K (.ref cz_BadMessage) "__class__" = some (some (.builtin "object.__class__")))
    (spc : PySem.W.specialIn K (.builtin "object.__class__") "__get__" = some (some (.builtin "getset_descriptor.__get__")))
    (tkc : PySem.W.takesIn K (.builtin "object.__class__") = some true)
    (mr_BadMessage : PySem.W.mroIn K cz_BadMessage (.type "object") = some true)
    (hd_BadMessage : PySem.W.hasDictIn K cz_BadMessage = true)
    (su_BadMessage_BadMessage : PySem.W.subIn K (.ref cz_BadMessage) (.ref cz_BadMessage) = some true)
    (cn_BadText : PySem.W.nsIn K mainGlobals "BadText" = some (some (.ref cz_BadText)))
    (ko_BadMessage_BadText : PySem.W.kitOne K (.ref cz_BadMessage) (.ref cz_BadText) = some false)
    (cn_MillError : PySem.W.nsIn K mainGlobals "MillError" = some (some (.ref cz_MillError)))
    (ko_BadMessage_MillError : PySem.W.kitOne K (.ref cz_BadMessage) (.ref cz_MillError) = some true)
    : ∃ fd : FuncData, (∀ (s : Shared) (v : Value), BindsTo s fd ⟨[v], []⟩ [("script", v)]) ∧ ∀ base : Heap, K.In base → base.Ns mainGlobals mg → FnOk l.prog w K mg base (L2N.CX l.prog w) 15 fa fd ["script"] (spM K mg 1 Mi.m_law_10) := by
  have e := hfa.symm.trans (PySem.W.mg_of X G a0)
  cases e
  have T : Txt w K mg := ⟨has_of X G a1 l1 c1 k1 fun _ _ _ _ _ _ us hl => match us, hl with | [_, _], _ => rfl, has_of X G a2 l2 c2 k2 fun _ _ _ _ _ _ us hl => match us, hl with | [_, _, _], _ => rfl, has_of X G a3 l3 c3 k3 fun _ _ _ _ _ _ us hl => match us, hl with | [_, _], _ => rfl, has_of X G a4 l4 c4 k4 fun _ _ _ _ _ _ us hl => match us, hl with | [_], _ => rfl, has_of X G a5 l5 c5 k5 fun _ _ _ _ _ _ us hl => match us, hl with | [_], _ => rfl, has_of X G a6 l6 c6 k6 fun _ _ _ _ _ _ us hl => match us, hl with | [_], _ => rfl, has_of X G a7 l7 c7 k7 fun _ _ _ _ _ _ us hl => match us, hl with | [_, _, _], _ => rfl, has_of X G a8 l8 c8 k8 fun _ _ _ _ _ _ us hl => match us, hl with | [_], _ => rfl, has_of X G a9 l9 c9 k9 fun _ _ _ _ _ _ us hl => match us, hl with | [], _ => rfl, has_of X G a10 l10 c10 k10 fun _ _ _ _ _ _ us hl => match us, hl with | [_], _ => rfl, has_of X G a11 l11 c11 k11 fun _ _ _ _ _ _ us hl => match us, hl with | [_, _], _ => rfl, has_of X G a12 l12 c12 k12 fun _ _ _ _ _ _ us hl => match us, hl with | [_], _ => rfl, has_of X G a13 l13 c13 k13 fun _ _ _ _ _ _ us hl => match us, hl with | [_], _ => rfl, has_of X G a14 l14 c14 k14 fun _ _ _ _ _ _ us hl => match us, hl with | [_, _], _ => rfl, has_of X G a15 l15 c15 k15 fun _ _ _ _ _ _ us hl => match us, hl with | [_, _, _, _], _ => rfl, has_of X G a16 l16 c16 k16 fun _ _ _ _ _ _ us hl => match us, hl with | [_, _], _ => rfl, has_of X G a17 l17 c17 k17 fun _ _ _ _ _ _ us hl => match us, hl with | [_, _], _ => rfl, has_of X G a18 l18 c18 k18 fun _ _ _ _ _ _ us hl => match us, hl with | [_], _ => rfl, has_of X G a19 l19 c19 k19 fun _ _ _ _ _ _ us hl => match us, hl with | [_], _ => rfl, has_of X G a20 l20 c20 k20 fun _ _ _ _ _ _ us hl => match us, hl with | [_], _ => rfl, has_of X G a21 l21 c21 k21 fun _ _ _ _ _ _ us hl => match us, hl with | [_, _], _ => rfl, has_of X G a22 l22 c22 k22 fun _ _ _ _ _ _ us hl => match us, hl with | [_], _ => rfl, has_of X G a23 l23 c23 k23 fun _ _ _ _ _ _ us hl => match us, hl with | [_], _ => rfl, has_of X G a24 l24 c24 k24 fun _ _ _ _ _ _ us hl => match us, hl with | [_], _ => rfl, has_of X G a25 l25 c25 k25 fun _ _ _ _ _ _ us hl => match us, hl with | [_, _], _ => rfl, has_of X G a26 l26 c26 k26 fun _ _ _ _ _ _ us hl => match us, hl with | [_], _ => rfl, has_of X G a27 l27 c27 k27 fun _ _ _ _ _ _ us hl => match us, hl with | [_, _], _ => rfl, has_of X G a28 l28 c28 k28 fun _ _ _ _ _ _ us hl => match us, hl with | [_, _], _ => rfl, has_of X G a29 l29 c29 k29 fun _ _ _ _ _ _ us hl => match us, hl with | [_, _], _ => rfl, PySem.W.mg_none_of X G z_abs, PySem.W.mg_none_of X G z_all, PySem.W.mg_none_of X G z_bool, PySem.W.mg_none_of X G z_int, PySem.W.mg_none_of X G z_isinstance, PySem.W.mg_none_of X G z_len, PySem.W.mg_none_of X G z_list, PySem.W.mg_none_of X G z_ord, PySem.W.mg_none_of X G z_range, PySem.W.mg_none_of X G z_str, PySem.W.mg_none_of X G z_tuple, ktup_of X G q_LONG_SIGNS ql_LONG_SIGNS (show 2 ≤ sizeLine by decide) (show Vals [V.str "==", V.str "!="] _ from (.cons ⟨_, rfl⟩ (.cons ⟨_, rfl⟩ .nil))), ⟨_, PySem.W.mg_of X G q_ESCAPES, kdt_of qd_ESCAPES (fun p m => by
    simp only [List.mem_cons, List.not_mem_nil, or_false] at m
    rcases m with rfl | rfl | rfl
    · exact ⟨_, qv_ESCAPES0⟩
    · exact ⟨_, qv_ESCAPES1⟩
    · exact ⟨_, qv_ESCAPES2⟩
)⟩, ⟨_, PySem.W.mg_of X G q_DIGITS⟩, ⟨_, PySem.W.mg_of X G q_LONGEST_ARG⟩, ⟨_, PySem.W.mg_of X G q_LONGEST_REASON⟩, ⟨_, PySem.W.mg_of X G q_LONGEST_TEXT⟩, ⟨_, PySem.W.mg_of X G q_LONGEST_VALUE⟩, ⟨_, PySem.W.mg_of X G q_LONGEST_WORD⟩, ⟨_, PySem.W.mg_of X G q_MOST_ARGS⟩, ⟨_, PySem.W.mg_of X G q_MOST_DIGITS⟩, ⟨_, PySem.W.mg_of X G q_MOST_NAMES⟩, ⟨_, PySem.W.mg_of X G q_PERCENT⟩, ⟨_, PySem.W.mg_of X G q_SIGNS⟩, ⟨_, PySem.W.mg_of X G q_WORD_SIGNS⟩, ⟨_, PySem.W.mg_of X G q_WORD_STARTS⟩, ⟨_, PySem.W.mg_of X G cn_BadMessage, ⟨ek_BadMessage, kp_BadMessage, sb_BadMessage, ty_BadMessage⟩⟩, ⟨_, PySem.W.mg_of X G cn_BadMessage, ⟨ic_BadMessage, ga_BadMessage, gt_BadMessage, sb_BadMessage, gc_BadMessage, spc, tkc, mr_BadMessage⟩⟩, ⟨_, PySem.W.mg_of X G cn_BadMessage, (fun c m cv hcv => by
      simp only [List.mem_cons, List.not_mem_nil, or_false] at m
      rcases m with rfl
      · cases hcv.symm.trans (PySem.W.mg_of X G cn_BadMessage)
        exact PySem.W.exm_ref sb_BadMessage hd_BadMessage ty_BadMessage su_BadMessage_BadMessage
), (fun _ m => nomatch m)⟩, fun hC => by cases hC.symm.trans (PySem.W.mg_of X G cn_BadMessage); exact ⟨_, PySem.W.mg_of X G cn_BadText, ko_BadMessage_BadText⟩, fun hC => by cases hC.symm.trans (PySem.W.mg_of X G cn_BadMessage); exact ⟨_, PySem.W.mg_of X G cn_MillError, ko_BadMessage_MillError⟩⟩
  exact ⟨PySem.W.fnOf "law" "law" (defArgs s_law) (defBody s_law) (defScope s_law) .none kV0 dc0 pm0 an0 cd0 ct0, fun s v => .of_eq rfl, fun base _ _ => okfn_law T (fun_mk (st := s_law) l0 c0 k0)⟩
end
end L73
theorem L73.main : ∀ ns : List Int, ns.length ≤ 63 → ∃ h, Mi.m_law_10 [Vi.D.klst (ns.map Vi.D.int)] [] = Vi.Rs.ok (Vi.D.bl true) h := Vi.k73_main
open PySem PySem.W PyProof.Rows in
set_option maxRecDepth 100000 in
set_option maxHeartbeats 0 in
theorem PySem.Challenge.cw_truemill_k73_keys_and_claims_of_all_word_holds : PySem.Challenge.rw_truemill_k73_keys_and_claims_of_all_word.Holds := by
  w_on; o_law; k_head; (case hw => w_witness2)
  k_fill
  refine Vi.law_walk (l := PySem.Challenge.rw_truemill_k73_keys_and_claims_of_all_word) (k := 15) (m := Mi.m_law_10) (x := "script") rfl rfl ⟨rfl, by decide, by decide⟩ (fun w h Y => PySem.W.kIn_of Y) ?ff ?mm
  case mm => exact L73.main
  case ff =>
    intro w mg fa h KX G hmg
    refine' L73.end_ KX G hmg ?a0 ?l0 ?c0 ?k0 ?a1 ?l1 ?c1 ?k1 ?a2 ?l2 ?c2 ?k2 ?a3 ?l3 ?c3 ?k3 ?a4 ?l4 ?c4 ?k4 ?a5 ?l5 ?c5 ?k5 ?a6 ?l6 ?c6 ?k6 ?a7 ?l7 ?c7 ?k7 ?a8 ?l8 ?c8 ?k8 ?a9 ?l9 ?c9 ?k9 ?a10 ?l10 ?c10 ?k10 ?a11 ?l11 ?c11 ?k11 ?a12 ?l12 ?c12 ?k12 ?a13 ?l13 ?c13 ?k13 ?a14 ?l14 ?c14 ?k14 ?a15 ?l15 ?c15 ?k15 ?a16 ?l16 ?c16 ?k16 ?a17 ?l17 ?c17 ?k17 ?a18 ?l18 ?c18 ?k18 ?a19 ?l19 ?c19 ?k19 ?a20 ?l20 ?c20 ?k20 ?a21 ?l21 ?c21 ?k21 ?a22 ?l22 ?c22 ?k22 ?a23 ?l23 ?c23 ?k23 ?a24 ?l24 ?c24 ?k24 ?a25 ?l25 ?c25 ?k25 ?a26 ?l26 ?c26 ?k26 ?a27 ?l27 ?c27 ?k27 ?a28 ?l28 ?c28 ?k28 ?a29 ?l29 ?c29 ?k29 ?z_abs ?z_all ?z_bool ?z_int ?z_isinstance ?z_len ?z_list ?z_ord ?z_range ?z_str ?z_tuple ?q_LONG_SIGNS ?ql_LONG_SIGNS ?q_ESCAPES ?qd_ESCAPES ?qv_ESCAPES0 ?qv_ESCAPES1 ?qv_ESCAPES2 ?q_DIGITS ?q_LONGEST_ARG ?q_LONGEST_REASON ?q_LONGEST_TEXT ?q_LONGEST_VALUE ?q_LONGEST_WORD ?q_MOST_ARGS ?q_MOST_DIGITS ?q_MOST_NAMES ?q_PERCENT ?q_SIGNS ?q_WORD_SIGNS ?q_WORD_STARTS ?cn_BadMessage ?ek_BadMessage ?kp_BadMessage ?sb_BadMessage ?ty_BadMessage ?ic_BadMessage ?ga_BadMessage ?gt_BadMessage ?gc_BadMessage ?spc ?tkc ?mr_BadMessage ?hd_BadMessage ?su_BadMessage_BadMessage ?cn_BadText ?ko_BadMessage_BadText ?cn_MillError ?ko_BadMessage_MillError
    (case a0 => k_is)
    (case l0 => k_is)
    (case c0 => k_is)
    (case k0 => k_is)
    (case a1 => k_is)
    (case l1 => k_is)
    (case c1 => k_is)
    (case k1 => k_is)
    (case a2 => k_is)
    (case l2 => k_is)
    (case c2 => k_is)
    (case k2 => k_is)
    (case a3 => k_is)
    (case l3 => k_is)
    (case c3 => k_is)
    (case k3 => k_is)
    (case a4 => k_is)
    (case l4 => k_is)
    (case c4 => k_is)
    (case k4 => k_is)
    (case a5 => k_is)
    (case l5 => k_is)
    (case c5 => k_is)
    (case k5 => k_is)
    (case a6 => k_is)
    (case l6 => k_is)
    (case c6 => k_is)
    (case k6 => k_is)
    (case a7 => k_is)
    (case l7 => k_is)
    (case c7 => k_is)
    (case k7 => k_is)
    (case a8 => k_is)
    (case l8 => k_is)
    (case c8 => k_is)
    (case k8 => k_is)
    (case a9 => k_is)
    (case l9 => k_is)
    (case c9 => k_is)
    (case k9 => k_is)
    (case a10 => k_is)
    (case l10 => k_is)
    (case c10 => k_is)
    (case k10 => k_is)
    (case a11 => k_is)
    (case l11 => k_is)
    (case c11 => k_is)
    (case k11 => k_is)
    (case a12 => k_is)
    (case l12 => k_is)
    (case c12 => k_is)
    (case k12 => k_is)
    (case a13 => k_is)
    (case l13 => k_is)
    (case c13 => k_is)
    (case k13 => k_is)
    (case a14 => k_is)
    (case l14 => k_is)
    (case c14 => k_is)
    (case k14 => k_is)
    (case a15 => k_is)
    (case l15 => k_is)
    (case c15 => k_is)
    (case k15 => k_is)
    (case a16 => k_is)
    (case l16 => k_is)
    (case c16 => k_is)
    (case k16 => k_is)
    (case a17 => k_is)
    (case l17 => k_is)
    (case c17 => k_is)
    (case k17 => k_is)
    (case a18 => k_is)
    (case l18 => k_is)
    (case c18 => k_is)
    (case k18 => k_is)
    (case a19 => k_is)
    (case l19 => k_is)
    (case c19 => k_is)
    (case k19 => k_is)
    (case a20 => k_is)
    (case l20 => k_is)
    (case c20 => k_is)
    (case k20 => k_is)
    (case a21 => k_is)
    (case l21 => k_is)
    (case c21 => k_is)
    (case k21 => k_is)
    (case a22 => k_is)
    (case l22 => k_is)
    (case c22 => k_is)
    (case k22 => k_is)
    (case a23 => k_is)
    (case l23 => k_is)
    (case c23 => k_is)
    (case k23 => k_is)
    (case a24 => k_is)
    (case l24 => k_is)
    (case c24 => k_is)
    (case k24 => k_is)
    (case a25 => k_is)
    (case l25 => k_is)
    (case c25 => k_is)
    (case k25 => k_is)
    (case a26 => k_is)
    (case l26 => k_is)
    (case c26 => k_is)
    (case k26 => k_is)
    (case a27 => k_is)
    (case l27 => k_is)
    (case c27 => k_is)
    (case k27 => k_is)
    (case a28 => k_is)
    (case l28 => k_is)
    (case c28 => k_is)
    (case k28 => k_is)
    (case a29 => k_is)
    (case l29 => k_is)
    (case c29 => k_is)
    (case k29 => k_is)
    (case z_abs => k_is)
    (case z_all => k_is)
    (case z_bool => k_is)
    (case z_int => k_is)
    (case z_isinstance => k_is)
    (case z_len => k_is)
    (case z_list => k_is)
    (case z_ord => k_is)
    (case z_range => k_is)
    (case z_str => k_is)
    (case z_tuple => k_is)
    (case q_LONG_SIGNS => k_is)
    (case ql_LONG_SIGNS => k_is)
    (case q_ESCAPES => k_is)
    (case qd_ESCAPES => first | rfl | kernel_rfl | decide +kernel)
    (case qv_ESCAPES0 => k_is)
    (case qv_ESCAPES1 => k_is)
    (case qv_ESCAPES2 => k_is)
    (case q_DIGITS => k_is)
    (case q_LONGEST_ARG => k_is)
    (case q_LONGEST_REASON => k_is)
    (case q_LONGEST_TEXT => k_is)
    (case q_LONGEST_VALUE => k_is)
    (case q_LONGEST_WORD => k_is)
    (case q_MOST_ARGS => k_is)
    (case q_MOST_DIGITS => k_is)
    (case q_MOST_NAMES => k_is)
    (case q_PERCENT => k_is)
    (case q_SIGNS => k_is)
    (case q_WORD_SIGNS => k_is)
    (case q_WORD_STARTS => k_is)
    (case cn_BadMessage => k_is)
    (case ek_BadMessage => k_exc)
    (case kp_BadMessage => first | k_is | rfl | kernel_rfl | decide +kernel)
    (case sb_BadMessage => first | k_is | rfl | kernel_rfl | decide +kernel)
    (case ty_BadMessage => first | k_is | rfl | kernel_rfl | decide +kernel)
    (case ic_BadMessage => first | k_is | rfl | kernel_rfl | decide +kernel)
    (case ga_BadMessage => first | k_is | rfl | kernel_rfl | decide +kernel)
    (case gt_BadMessage => first | k_is | rfl | kernel_rfl | decide +kernel)
    (case gc_BadMessage => first | k_is | rfl | kernel_rfl | decide +kernel)
    (case spc => first | k_is | rfl | kernel_rfl | decide +kernel)
    (case tkc => first | k_is | rfl | kernel_rfl | decide +kernel)
    (case mr_BadMessage => first | k_is | rfl | kernel_rfl | decide +kernel)
    (case hd_BadMessage => first | k_is | rfl | kernel_rfl | decide +kernel)
    (case su_BadMessage_BadMessage => first | k_is | rfl | kernel_rfl | decide +kernel)
    (case cn_BadText => k_is)
    (case ko_BadMessage_BadText => first | k_is | rfl | kernel_rfl | decide +kernel)
    (case cn_MillError => k_is)
    (case ko_BadMessage_MillError => first | k_is | rfl | kernel_rfl | decide +kernel)
