import PyProof.Rows.All
import Wide.All
import OpenK.AllK
import Wide.FinOn
import HandS.ForMost
import HandS.Exc
import HandS.TryOnly
import HandS.ExcOwn
import HandS.WordsExc
import HandS.ExcCtx
import HandS.IsInst
import HandS.Walk
import HandS.Lambda
import HandS.TupAny
import HandS.StrMore
import HandS.EndTab
import KE.SortData
import KE.SortKeyHeap
import HandS.More
import HandS.HeadHook3
import HandS.ExcInit
import HandS.ExcField
import HandS.ExcIs
import HandS.HotCalls
import HandS.Text
import KE.KExcIs
import HandS.FStr
import HandS.ListItems
import HandS.WordsDict
import HandS.SetKeys
import HandS.Conv
import HandS.DictTup
import HandS.Deep
import KE.KDictList
import HandS.DictComp
import PyProof.DictUpdate
import HandS.SortKw
import HandS.Iter
import HandS.Replace
import HandS.Remove
import HandS.NoneIn
import HandS.SetFor
import HandS.TryMany
import HandS.ReplaceLit
import KE.KIntText
import KE.KStrOpen
import PySem.Challenge.RW_truemill_k32_voices
set_option Elab.async false
set_option linter.all false
set_option autoImplicit false
set_option maxRecDepth 100000
set_option maxHeartbeats 2000000
namespace Vi
open PySem PySem.Spec PyProof.Rows L2

/-! ### data, cells, results -/
inductive D where
  | non | bl (b : Bool) | int (i : Int) | str (x : Str) | lst (xs : List D) | klst (xs : List D) | tup (xs : List D) | ref (i : Nat) | ty (n : String)
  deriving Inhabited
inductive Cel where
  | lst (xs : List D) | dct (kvs : List (Key × D)) | ins (c : Str) (fs : List (Str × D)) | lok (kvs : List (Key × D))
  deriving Inhabited
abbrev Hap := List Cel
abbrev Env := List (Option D)
inductive Rs (α : Type) where
  | ok (a : α) (h : Hap) | err (c : Str) (fs : Option (List (Str × D))) (h : Hap) | stuck
inductive RS where
  | nx (e : Env) (h : Hap) | rt (d : D) (h : Hap) | bk (e : Env) (h : Hap) | ct (e : Env) (h : Hap) | er (c : Str) (fs : Option (List (Str × D))) (e : Env) (h : Hap) | stuck
abbrev ME := Env → Hap → Rs D
abbrev MA := Env → Hap → Rs (List D)
abbrev MT := Env → Hap → Rs Bool
abbrev MS := Env → Hap → RS
abbrev MF := List D → Hap → Rs D
@[reducible] def Rs.bind {α β : Type} (r : Rs α) (f : α → Hap → Rs β) : Rs β := match r with
  | .ok a h => f a h
  | .err c fs h => .err c fs h
  | .stuck => .stuck
def ofO {α : Type} (o : Option α) (h : Hap) : Rs α := match o with
  | some d => .ok d h
  | none => .stuck

/-! ### tables of code objects: what a def has made of its lambdas -/
class Tbl where
  T : List (Addr × Str)
structure TabOk (F H : Hp) (P : Addr) (q : Str) : Prop where
  f : F P = none
  t : ∃ ps : Array Value, H P = some (.tbl ps) ∧ PySem.TriplesOk ps.toList ∧ ∀ (pos : Pos) (cv : Value), PySem.codeAmong pos ps.toList = some cv → ∃ c, cv = .ref c ∧ F c = some (LamX.CodeO c q)
def NT (o : HO) : Prop := ∀ ps, o ≠ .tbl ps
theorem TabOk.ne {F H : Hp} {P p : Addr} {q : Str} (t : TabOk F H P q) (h : ∀ o, H p = some o → NT o) : P ≠ p := fun e => by
  obtain ⟨ps, e1, _⟩ := t.t
  rw [e] at e1
  exact h _ e1 ps rfl
theorem TabOk.up {F F' H H' : Hp} {P : Addr} {q : Str} (t : TabOk F H P q) (f0 : F' P = F P) (fm : ∀ a o, F a = some o → F' a = some o) (h0 : H' P = H P) : TabOk F' H' P q := by
  obtain ⟨ps, e1, e2, e3⟩ := t.t
  refine ⟨by rw [f0]; exact t.f, ps, by rw [h0]; exact e1, e2, fun pos cv e => ?_⟩
  obtain ⟨c, e4, e5⟩ := e3 pos cv e
  exact ⟨c, e4, fm _ _ e5⟩
/-! ### how they stand in the heap -/
structure Wd where
  F : Hp
  ρ : List Addr
section
variable (K : PySem.W.Frag)
mutual
inductive VR (w : Wd) : V → D → Prop
  | non : VR w .non .non
  | bl (b : Bool) : VR w (.bl b) (.bl b)
  | int (i : Int) : VR w (.int i) (.int i)
  | str (x : Str) : VR w (.str x) (.str x)
  | ty (n : String) : VR w (.ty n) (.ty n)
  | lst {a : Addr} {vs : List V} {ds : List D} : w.F a = some (.lst vs) → VRs w vs ds → VR w (.ref a) (.lst ds)
  | klst {a : Addr} {vs : List V} {ds : List D} : SqL K w.F a vs → VRs w vs ds → VR w (.ref a) (.klst ds)
  | tup {a : Addr} {vs : List V} {ds : List D} : SqT K w.F a vs → VRs w vs ds → VR w (.ref a) (.tup ds)
  | ref {a : Addr} {i : Nat} : w.ρ[i]? = some a → VR w (.ref a) (.ref i)
inductive VRs (w : Wd) : List V → List D → Prop
  | nil : VRs w [] []
  | cons {v : V} {vs : List V} {d : D} {ds : List D} : VR w v d → VRs w vs ds → VRs w (v :: vs) (d :: ds)
end
def CRel (w : Wd) : HO → Cel → Prop
  | .lst vs, .lst ds => VRs K w vs ds
  | .dK kvs, .dct kds => kvs.map Prod.fst = kds.map Prod.fst ∧ VRs K w (kvs.map Prod.snd) (kds.map Prod.snd)
  | .ins C _ fs, .ins c fds => PySem.W.nsIn K PySem.mainGlobals c = some (some (.ref C)) ∧ fs.map Prod.fst = fds.map Prod.fst ∧ VRs K w (fs.map Prod.snd) (fds.map Prod.snd)
  | _, _ => False
/-- how a cell stands: a locked dict (one that is being walked) is frozen, any other cell is not -/
def CelOk (w : Wd) (H : Hp) (a : Addr) (c : Cel) : Prop := match c with
  | .lok kds => ∃ (od : Obj) (kvs : List (Key × V)), w.F a = some (.frz od (.dK kvs)) ∧ kvs.map Prod.fst = kds.map Prod.fst ∧ VRs K w (kvs.map Prod.snd) (kds.map Prod.snd)
  | c => w.F a = none ∧ ∃ o, H a = some o ∧ CRel K w o c
structure Ok [Tbl] (w : Wd) (H : Hp) (h : Hap) : Prop where
  sub : ∀ a o, w.F a = some o → H a = some o
  len : w.ρ.length = h.length
  cel : ∀ (i : Nat) (a : Addr) (c : Cel), w.ρ[i]? = some a → h[i]? = some c → CelOk K w H a c
  nd : w.ρ.Nodup
  tab : ∀ p ∈ Tbl.T, TabOk w.F H p.1 p.2
structure EnvR (w : Wd) (σ : L2.St) (env : Env) : Prop where
  len : σ.length = env.length
  get : ∀ (i : Nat) (d : D), env[i]? = some (some d) → ∃ v, σ[i]? = some (some v) ∧ VR K w v d
/-- the fields of an error's own dict -/
def XR (w : Wd) (H : Hp) (d : Option Addr) (fs : Option (List (Str × D))) : Prop := match d, fs with
  | none, none => True
  | some dd, some fds => ∃ fs', H dd = some (.xd fs') ∧ dd ∉ w.ρ ∧ fs'.map Prod.fst = fds.map Prod.fst ∧ VRs K w (fs'.map Prod.snd) (fds.map Prod.snd)
  | _, _ => False
end
structure Step (w : Wd) (H : Hp) (w' : Wd) (H' : Hp) : Prop where
  f : ∀ a o, w.F a = some o → w'.F a = some o
  r : ∃ t, w'.ρ = w.ρ ++ t
  keep : ∀ a o, a ∉ w.ρ → NT o → H a = some o → H' a = some o
  dom : ∀ a, H a ≠ none → H' a ≠ none
  new : ∀ a, a ∈ w'.ρ → a ∈ w.ρ ∨ H a = none
  nf : ∀ a o, w'.F a = some o → w.F a = some o ∨ H a = none

section
variable {K : PySem.W.Frag} {w w' w1 w2 : Wd} {H H' H1 H2 : Hp} {h h' : Hap} {σ : L2.St} {env : Env}
theorem Step.refl (w : Wd) (H : Hp) : Step w H w H := ⟨fun _ _ e => e, ⟨[], by simp⟩, fun _ _ _ _ e => e, fun _ e => e, fun _ m => .inl m, fun _ _ e => .inl e⟩
theorem Step.mem (s : Step w H w' H') {a : Addr} (m : a ∈ w.ρ) : a ∈ w'.ρ := by
  obtain ⟨t, e⟩ := s.r
  rw [e]
  exact List.mem_append_left _ m
theorem Step.trans (s : Step w H w1 H1) (t : Step w1 H1 w2 H2) : Step w H w2 H2 := by
  refine ⟨fun a o e => t.f a o (s.f a o e), ?_, fun a o n nt e => ?_, fun a e => t.dom a (s.dom a e), fun a m => ?_, fun a o e => ?_⟩
  · obtain ⟨x, e1⟩ := s.r
    obtain ⟨y, e2⟩ := t.r
    exact ⟨x ++ y, by rw [e2, e1, List.append_assoc]⟩
  · have q := s.keep a o n nt e
    refine t.keep a o (fun m => ?_) nt q
    rcases s.new a m with z | z
    · exact n z
    · rw [e] at z; cases z
  · rcases t.new a m with z | z
    · exact s.new a z
    · right
      cases q : H a with
      | none => rfl
      | some o => exact absurd z (s.dom a (by rw [q]; exact fun z => nomatch z))
  · rcases t.nf a o e with z | z
    · exact s.nf a o z
    · right
      cases q : H a with
      | none => rfl
      | some o => exact absurd z (s.dom a (by rw [q]; exact fun z => nomatch z))
theorem Rd.monoF {F F' : Hp} (f : ∀ a o, F a = some o → F' a = some o) {a : Addr} {u : HO} (r : Rd F a u) : Rd F' a u := by
  rcases r with r | ⟨o, r⟩
  · exact .inl (f _ _ r)
  · exact .inr ⟨o, f _ _ r⟩
theorem sqL_mono {F F' : Hp} (f : ∀ a o, F a = some o → F' a = some o) {a : Addr} {xs : List V} (r : SqL K F a xs) : SqL K F' a xs := by
  rcases r with r | r
  · exact .inl (Rd.monoF f r)
  · exact .inr r
theorem sqT_mono {F F' : Hp} (f : ∀ a o, F a = some o → F' a = some o) {a : Addr} {xs : List V} (r : SqT K F a xs) : SqT K F' a xs := by
  rcases r with r | r
  · exact .inl (Rd.monoF f r)
  · exact .inr r
mutual
theorem VR.mono' (f : ∀ a o, w.F a = some o → w'.F a = some o) (r : ∀ (i : Nat) (a : Addr), w.ρ[i]? = some a → w'.ρ[i]? = some a) : ∀ {v : V} {d : D}, VR K w v d → VR K w' v d
  | _, _, .non => .non
  | _, _, .bl b => .bl b
  | _, _, .int i => .int i
  | _, _, .str x => .str x
  | _, _, .ty n => .ty n
  | _, _, .lst e t => .lst (f _ _ e) (VRs.mono' f r t)
  | _, _, .klst e t => .klst (sqL_mono f e) (VRs.mono' f r t)
  | _, _, .tup e t => .tup (sqT_mono f e) (VRs.mono' f r t)
  | _, _, .ref e => .ref (r _ _ e)
theorem VRs.mono' (f : ∀ a o, w.F a = some o → w'.F a = some o) (r : ∀ (i : Nat) (a : Addr), w.ρ[i]? = some a → w'.ρ[i]? = some a) : ∀ {v : List V} {d : List D}, VRs K w v d → VRs K w' v d
  | _, _, .nil => .nil
  | _, _, .cons a b => .cons (VR.mono' f r a) (VRs.mono' f r b)
end
theorem Step.ix (s : Step w H w' H') {i : Nat} {a : Addr} (e : w.ρ[i]? = some a) : w'.ρ[i]? = some a := by
  obtain ⟨t, q⟩ := s.r
  rw [q]
  have hi : i < w.ρ.length := (List.getElem?_eq_some_iff.mp e).1
  rw [List.getElem?_append_left hi]
  exact e
theorem VR.mono (s : Step w H w' H') {v : V} {d : D} (r : VR K w v d) : VR K w' v d := r.mono' s.f fun _ _ e => s.ix e
theorem VRs.mono (s : Step w H w' H') {v : List V} {d : List D} (r : VRs K w v d) : VRs K w' v d := r.mono' s.f fun _ _ e => s.ix e
theorem EnvR.mono (s : Step w H w' H') (r : EnvR K w σ env) : EnvR K w' σ env := ⟨r.len, fun i d e => by
  obtain ⟨v, e1, e2⟩ := r.get i d e
  exact ⟨v, e1, e2.mono s⟩⟩
theorem CRel.mono' {w w' : Wd} (f : ∀ a o, w.F a = some o → w'.F a = some o) (r : ∀ (i : Nat) (a : Addr), w.ρ[i]? = some a → w'.ρ[i]? = some a) {o : HO} {c : Cel} (x : CRel K w o c) : CRel K w' o c := by
  cases o <;> cases c <;> first
    | exact VRs.mono' f r x
    | exact ⟨x.1, VRs.mono' f r x.2⟩
    | exact ⟨x.1, x.2.1, VRs.mono' f r x.2.2⟩
    | exact x
theorem CRel.nt {w : Wd} {o : HO} {c : Cel} (x : CRel K w o c) : NT o := fun ps e => by
  subst e
  cases c <;> exact x
theorem VRs.length : ∀ {v : List V} {d : List D}, VRs K w v d → v.length = d.length
  | _, _, .nil => rfl
  | _, _, .cons _ b => by rw [List.length_cons, List.length_cons, VRs.length b]
theorem VRs.append : ∀ {v v' : List V} {d d' : List D}, VRs K w v d → VRs K w v' d' → VRs K w (v ++ v') (d ++ d')
  | _, _, _, _, .nil, t => t
  | _, _, _, _, .cons a b, t => .cons a (VRs.append b t)
theorem VRs.get : ∀ {v : List V} {d : List D} {i : Nat} {x : V}, VRs K w v d → v[i]? = some x → ∃ y, d[i]? = some y ∧ VR K w x y
  | _, _, i, _, .nil, e => by simp at e
  | _, _, 0, _, .cons a b, e => by
    simp at e
    subst e
    exact ⟨_, rfl, a⟩
  | _, _, i + 1, x, .cons a b, e => by
    obtain ⟨u, h1, h2⟩ := VRs.get (i := i) (x := x) b (by simpa using e)
    exact ⟨u, by simpa using h1, h2⟩
theorem VRs.get' : ∀ {v : List V} {d : List D} {i : Nat} {y : D}, VRs K w v d → d[i]? = some y → ∃ x, v[i]? = some x ∧ VR K w x y
  | _, _, i, _, .nil, e => by simp at e
  | _, _, 0, _, .cons a b, e => by
    simp at e
    subst e
    exact ⟨_, rfl, a⟩
  | _, _, i + 1, x, .cons a b, e => by
    obtain ⟨u, h1, h2⟩ := VRs.get' (i := i) (y := x) b (by simpa using e)
    exact ⟨u, by simpa using h1, h2⟩
theorem VRs.set {x : V} {y : D} (r : VR K w x y) : ∀ {v : List V} {d : List D} (i : Nat), VRs K w v d → VRs K w (v.set i x) (d.set i y)
  | _, _, _, .nil => .nil
  | _, _, 0, .cons _ t => .cons r t
  | _, _, i + 1, .cons q t => .cons q (VRs.set r i t)
theorem VRs.take : ∀ {v : List V} {d : List D} (n : Nat), VRs K w v d → VRs K w (v.take n) (d.take n)
  | _, _, 0, _ => .nil
  | _, _, _ + 1, .nil => .nil
  | _, _, n + 1, .cons r t => .cons r (VRs.take n t)
theorem VRs.drop : ∀ {v : List V} {d : List D} (n : Nat), VRs K w v d → VRs K w (v.drop n) (d.drop n)
  | _, _, 0, r => r
  | _, _, _ + 1, .nil => .nil
  | _, _, n + 1, .cons _ t => VRs.drop n t
theorem VRs.strs : ∀ {v : List V} {xs : List Str}, VRs K w v (xs.map D.str) → v = xs.map V.str
  | _, [], .nil => rfl
  | _, _ :: _, .cons (.str _) t => by rw [VRs.strs t]; rfl
theorem VRs.ints : ∀ {v : List V} {xs : List Int}, VRs K w v (xs.map D.int) → v = xs.map V.int
  | _, [], .nil => rfl
  | _, _ :: _, .cons (.int _) t => by rw [VRs.ints t]; rfl
theorem VRs.bls : ∀ {v : List V} {xs : List Bool}, VRs K w v (xs.map D.bl) → v = xs.map V.bl
  | _, [], .nil => rfl
  | _, _ :: _, .cons (.bl _) t => by rw [VRs.bls t]; rfl
theorem VRs.of_strs : ∀ {xs : List Str}, VRs K w (xs.map V.str) (xs.map D.str)
  | [] => .nil
  | x :: _ => .cons (.str x) VRs.of_strs
theorem VRs.of_ints : ∀ {xs : List Int}, VRs K w (xs.map V.int) (xs.map D.int)
  | [] => .nil
  | x :: _ => .cons (.int x) VRs.of_ints

theorem CelOk.of {a : Addr} {o : HO} {c : Cel} (f : w.F a = none) (e : H a = some o) (r : CRel K w o c) : CelOk K w H a c := by
  cases c with
  | lok kds => cases o <;> exact r.elim
  | lst xs => exact ⟨f, o, e, r⟩
  | dct xs => exact ⟨f, o, e, r⟩
  | ins c xs => exact ⟨f, o, e, r⟩
theorem CelOk.un {a : Addr} {c : Cel} (x : CelOk K w H a c) (hc : ∀ kds, c ≠ .lok kds) : w.F a = none ∧ ∃ o, H a = some o ∧ CRel K w o c := by
  cases c with
  | lok kds => exact absurd rfl (hc kds)
  | lst xs => exact x
  | dct xs => exact x
  | ins c xs => exact x
theorem CelOk.ex [Tbl] (ok : Ok K w H h) {a : Addr} {c : Cel} (x : CelOk K w H a c) : ∃ o, H a = some o ∧ NT o := by
  by_cases hc : ∃ kds, c = .lok kds
  · obtain ⟨kds, rfl⟩ := hc
    obtain ⟨od, kvs, e, _⟩ := x
    exact ⟨_, ok.sub _ _ e, fun _ z => nomatch z⟩
  · obtain ⟨_, o, e, r⟩ := x.un fun kds z => hc ⟨kds, z⟩
    exact ⟨o, e, CRel.nt r⟩
theorem CelOk.up {a : Addr} {c : Cel} (x : CelOk K w H a c) (f : ∀ a o, w.F a = some o → w'.F a = some o) (r : ∀ (i : Nat) (a : Addr), w.ρ[i]? = some a → w'.ρ[i]? = some a) (f0 : w.F a = none → w'.F a = none) (h0 : H' a = H a) : CelOk K w' H' a c := by
  by_cases hc : ∃ kds, c = .lok kds
  · obtain ⟨kds, rfl⟩ := hc
    obtain ⟨od, kvs, e, e2, e3⟩ := x
    exact ⟨od, kvs, f _ _ e, e2, VRs.mono' f r e3⟩
  · obtain ⟨z, o, e, q⟩ := x.un fun kds z => hc ⟨kds, z⟩
    exact .of (f0 z) (by rw [h0]; exact e) (CRel.mono' f r q)
/-- a new frozen object -/
theorem Ok.fresh [Tbl] (ok : Ok K w H h) {p : Addr} (hp : H p = none) : w.F p = none ∧ p ∉ w.ρ := by
  constructor
  · cases q : w.F p with
    | none => rfl
    | some o => rw [ok.sub p o q] at hp; cases hp
  · intro m
    obtain ⟨i, hi⟩ := List.getElem?_of_mem m
    have hl : i < w.ρ.length := (List.getElem?_eq_some_iff.mp hi).1
    rw [ok.len] at hl
    obtain ⟨o, e, _⟩ := (ok.cel i p _ hi (List.getElem?_eq_getElem hl)).ex ok
    rw [hp] at e
    cases e
theorem Ok.alloc [Tbl] (ok : Ok K w H h) {p : Addr} {o : HO} (hp : H p = none) : Ok K ⟨upd w.F p o, w.ρ⟩ (upd H p o) h ∧ Step w H ⟨upd w.F p o, w.ρ⟩ (upd H p o) := by
  obtain ⟨f0, r0⟩ := ok.fresh hp
  have fm : ∀ a u, w.F a = some u → upd w.F p o a = some u := fun a u e => by
    rw [upd_ne (ne_of_none e f0)]
    exact e
  refine ⟨⟨fun a u e => ?_, ok.len, fun i a c e1 e2 => ?_, ok.nd, fun x m => ?tab⟩, ⟨fm, ⟨[], by simp⟩, fun a u _ _ e => ?_, fun a e => ?_, fun a m => .inl m, fun a u e => ?_⟩⟩
  case tab =>
    have y := ok.tab x m
    have ne := y.ne (p := p) fun o e => by rw [hp] at e; cases e
    exact y.up (by show upd w.F p o x.1 = _; rw [upd_ne ne]) fm (by rw [upd_ne ne])
  · have e : upd w.F p o a = some u := e
    by_cases q : a = p
    · subst q
      rw [upd_same] at e ⊢
      exact e
    · rw [upd_ne q] at e ⊢
      exact ok.sub a u e
  · have x := ok.cel i a c e1 e2
    obtain ⟨u, e3, _⟩ := x.ex ok
    have ne : a ≠ p := ne_of_none e3 hp
    exact x.up fm (fun _ _ e => e) (fun z => by show upd w.F p o a = none; rw [upd_ne ne]; exact z) (upd_ne ne)
  · rw [upd_ne (ne_of_none e hp)]
    exact e
  · by_cases q : a = p
    · subst q
      exact absurd hp e
    · rw [upd_ne q]
      exact e
  · by_cases q : a = p
    · subst q
      exact .inr hp
    · have e' : upd w.F p o a = some u := e
      rw [upd_ne q] at e'
      exact .inl e'
/-- an object is tracked that was laid ahead of w's steps (a comprehension's list) -/
theorem Ok.freeze [Tbl] (ok : Ok K w H h) {p : Addr} {o : HO} (hp : H p = some o) (nt : NT o) (f0 : w.F p = none) (r0 : p ∉ w.ρ) : Ok K ⟨upd w.F p o, w.ρ⟩ H h := by
  have fm : ∀ a u, w.F a = some u → upd w.F p o a = some u := fun a u e => by
    rw [upd_ne (ne_of_none e f0)]
    exact e
  refine ⟨fun a u e => ?_, ok.len, fun i a c e1 e2 => ?_, ok.nd, fun x m => ?tab⟩
  case tab =>
    have y := ok.tab x m
    have ne := y.ne (p := p) fun o' e => by rw [hp] at e; cases e; exact nt
    exact y.up (by show upd w.F p o x.1 = _; rw [upd_ne ne]) fm rfl
  · by_cases q : a = p
    · subst q
      have e' : upd w.F a o a = some u := e
      rw [upd_same] at e'
      rw [hp]
      exact e'
    · have e' : upd w.F p o a = some u := e
      rw [upd_ne q] at e'
      exact ok.sub a u e'
  · have ne : a ≠ p := fun q => r0 (by rw [← q]; exact List.mem_of_getElem? e1)
    exact (ok.cel i a c e1 e2).up fm (fun _ _ e => e) (fun z => by show upd w.F p o a = none; rw [upd_ne ne]; exact z) rfl
/-- an object that is not tracked changes -/
theorem Ok.put [Tbl] (ok : Ok K w H h) {p : Addr} {o : HO} (nt : ∀ o, H p = some o → NT o) (f0 : w.F p = none) (r0 : p ∉ w.ρ) : Ok K w (upd H p o) h := by
  refine ⟨fun a u e => ?_, ok.len, fun i a c e1 e2 => ?_, ok.nd, fun x m => (ok.tab x m).up rfl (fun _ _ e => e) (upd_ne ((ok.tab x m).ne nt))⟩
  · rw [upd_ne (ne_of_none e f0)]
    exact ok.sub a u e
  · have ne : a ≠ p := fun q => r0 (by rw [← q]; exact List.mem_of_getElem? e1)
    exact (ok.cel i a c e1 e2).up (fun _ _ e => e) (fun _ _ e => e) (fun z => z) (upd_ne ne)
/-- a cell changes -/
theorem Ok.write [Tbl] (ok : Ok K w H h) {i : Nat} {p : Addr} {o : HO} {c : Cel} (hn : ∀ kds, h[i]? ≠ some (.lok kds)) (hi : w.ρ[i]? = some p) (hc : CRel K w o c) : Ok K w (upd H p o) (h.set i c) ∧ Step w H w (upd H p o) := by
  have hl : i < w.ρ.length := (List.getElem?_eq_some_iff.mp hi).1
  have hl' : i < h.length := by rw [← ok.len]; exact hl
  obtain ⟨z0, u0, e0, _⟩ := (ok.cel i p _ hi (List.getElem?_eq_getElem hl')).un fun kds z => hn kds (by rw [List.getElem?_eq_getElem hl', z])
  have pm : p ∈ w.ρ := List.mem_of_getElem? hi
  have ntp : ∀ o, H p = some o → NT o := fun o' e => by
    obtain ⟨u1, e1, r1⟩ := (ok.cel i p _ hi (List.getElem?_eq_getElem hl')).ex ok
    rw [e1] at e
    cases e
    exact r1
  refine ⟨⟨fun a u e => ?_, by rw [List.length_set]; exact ok.len, fun j a c' e1 e2 => ?_, ok.nd, fun x m => (ok.tab x m).up rfl (fun _ _ e => e) (upd_ne ((ok.tab x m).ne ntp))⟩, ⟨fun _ _ e => e, ⟨[], by simp⟩, fun a u n _ e => ?_, fun a e => ?_, fun a m => .inl m, fun a u e => .inl e⟩⟩
  · rw [upd_ne (ne_of_none e z0)]
    exact ok.sub a u e
  · by_cases q : i = j
    · subst q
      rw [hi] at e1
      cases e1
      rw [List.getElem?_set_self hl'] at e2
      cases e2
      exact .of z0 upd_same hc
    · rw [List.getElem?_set_ne q] at e2
      have ne : a ≠ p := fun z => by
        subst z
        exact q ((List.getElem?_inj hl ok.nd).mp (by rw [hi, e1]))
      exact (ok.cel j a c' e1 e2).up (fun _ _ e => e) (fun _ _ e => e) (fun z => z) (upd_ne ne)
  · have ne : a ≠ p := fun z => n (by rw [z]; exact pm)
    rw [upd_ne ne]
    exact e
  · by_cases q : a = p
    · subst q
      rw [upd_same]
      exact fun z => nomatch z
    · rw [upd_ne q]
      exact e
/-- a new cell -/
theorem Ok.cell [Tbl] (ok : Ok K w H h) {p : Addr} {o : HO} {c : Cel} (hp : H p = none) (hc : CRel K w o c) :
    Ok K ⟨w.F, w.ρ ++ [p]⟩ (upd H p o) (h ++ [c]) ∧ Step w H ⟨w.F, w.ρ ++ [p]⟩ (upd H p o) := by
  obtain ⟨f0, r0⟩ := ok.fresh hp
  have rm : ∀ (i : Nat) (a : Addr), w.ρ[i]? = some a → (w.ρ ++ [p])[i]? = some a := fun i a e => by
    rw [List.getElem?_append_left (List.getElem?_eq_some_iff.mp e).1]
    exact e
  refine ⟨⟨fun a u e => ?_, by simp [ok.len], fun j a c' e1 e2 => ?_, ?_, fun x m => (ok.tab x m).up rfl (fun _ _ e => e) (upd_ne ((ok.tab x m).ne fun o e => by rw [hp] at e; cases e))⟩, ⟨fun _ _ e => e, ⟨[p], rfl⟩, fun a u _ _ e => ?_, fun a e => ?_, fun a m => ?_, fun a u e => .inl e⟩⟩
  · rw [upd_ne (ne_of_none e f0)]
    exact ok.sub a u e
  · by_cases q : j < w.ρ.length
    · have e1' : (w.ρ ++ [p])[j]? = some a := e1
      rw [List.getElem?_append_left q] at e1'
      rw [List.getElem?_append_left (by rw [← ok.len]; exact q)] at e2
      have x := ok.cel j a c' e1' e2
      obtain ⟨u, e3, _⟩ := x.ex ok
      exact x.up (w' := ⟨w.F, w.ρ ++ [p]⟩) (fun _ _ e => e) rm (fun z => z) (upd_ne (ne_of_none e3 hp))
    · have e1' : (w.ρ ++ [p])[j]? = some a := e1
      have hj : j < (w.ρ ++ [p]).length := (List.getElem?_eq_some_iff.mp e1').1
      rw [List.length_append, List.length_singleton] at hj
      have ej : j = w.ρ.length := by omega
      subst ej
      rw [List.getElem?_append_right (Nat.le_refl _), Nat.sub_self] at e1'
      rw [ok.len, List.getElem?_append_right (Nat.le_refl _), Nat.sub_self] at e2
      simp at e1' e2
      subst e1' e2
      exact .of f0 upd_same (CRel.mono' (w := w) (w' := ⟨w.F, w.ρ ++ [p]⟩) (fun _ _ e => e) rm hc)
  · show (w.ρ ++ [p]).Nodup
    rw [List.nodup_append]
    exact ⟨ok.nd, by simp, fun a m b m2 => by
      simp at m2
      subst m2
      exact fun z => r0 (by rw [← z]; exact m)⟩
  · rw [upd_ne (ne_of_none e hp)]
    exact e
  · by_cases q : a = p
    · subst q
      exact absurd hp e
    · rw [upd_ne q]
      exact e
  · have m' : a ∈ w.ρ ++ [p] := m
    rw [List.mem_append] at m'
    rcases m' with z | z
    · exact .inl z
    · simp at z
      subst z
      exact .inr hp
end
end Vi

set_option Elab.async false
set_option linter.all false
set_option autoImplicit false
set_option maxRecDepth 100000
set_option maxHeartbeats 2000000
namespace Vi
open PySem PySem.Spec PyProof.Rows L2
variable {gm : Str → Option Value}

/-! ### what a result asks of the wishes -/
def Post [Tbl] {α β : Type} (K : PySem.W.Frag) (gm : Str → Option Value) (VA : Wd → β → α → Prop) (w : Wd) (H : Hp) (r : Rs α) (Q : β → Hp → Prop) (E : XK) : Prop := match r with
  | .ok a h => ∀ v w' H', Step w H w' H' → Ok K w' H' h → VA w' v a → Q v H'
  | .err c fs h => ∀ cv d w' H', gm c = some cv → Step w H w' H' → Ok K w' H' h → XR K w' H' d fs → E cv d H'
  | .stuck => False
def PostS [Tbl] (K : PySem.W.Frag) (gm : Str → Option Value) (w : Wd) (H : Hp) (r : RS) (D : Ends) (W : WX) : Prop := match r with
  | .nx e h => ∀ σ w' H', Step w H w' H' → Ok K w' H' h → EnvR K w' σ e → D.nx σ H'
  | .bk e h => ∀ σ w' H', Step w H w' H' → Ok K w' H' h → EnvR K w' σ e → D.bk σ H'
  | .ct e h => ∀ σ w' H', Step w H w' H' → Ok K w' H' h → EnvR K w' σ e → D.ct σ H'
  | .rt d h => ∀ v w' H', Step w H w' H' → Ok K w' H' h → VR K w' v d → D.rt v H'
  | .er c fs e h => ∀ cv d σ w' H', gm c = some cv → Step w H w' H' → Ok K w' H' h → EnvR K w' σ e → XR K w' H' d fs → W cv d σ H'
  | .stuck => False
def VRb (_ : Wd) (v b : Bool) : Prop := v = b
def tE [Tbl] (K : PySem.W.Frag) (gm : Str → Option Value) (W : WX) (m : ME) : TE := fun σ H Q => ∃ w env h, Ok K w H h ∧ EnvR K w σ env ∧ Post K gm (VR K) w H (m env h) Q fun c d H' => W c d σ H'
def tA [Tbl] (K : PySem.W.Frag) (gm : Str → Option Value) (W : WX) (m : MA) : TA := fun σ H Q => ∃ w env h, Ok K w H h ∧ EnvR K w σ env ∧ Post K gm (VRs K) w H (m env h) Q fun c d H' => W c d σ H'
def tT [Tbl] (K : PySem.W.Frag) (gm : Str → Option Value) (W : WX) (m : MT) : TT := fun σ H Q => ∃ w env h, Ok K w H h ∧ EnvR K w σ env ∧ Post K gm VRb w H (m env h) Q fun c d H' => W c d σ H'
def tS [Tbl] (K : PySem.W.Frag) (gm : Str → Option Value) (W : WX) (m : MS) : TS := fun D σ H => ∃ w env h, Ok K w H h ∧ EnvR K w σ env ∧ PostS K gm w H (m env h) D W

theorem PE.imp {X : Cx} {e : Expr} {t t' : TE} (p : PE X e t) (i : ∀ σ H Q, t' σ H Q → t σ H Q) : PE X e t' := ⟨fun pins s σ H Q I h => p.run pins s σ H Q I (i _ _ _ h)⟩
theorem PT.imp {X : Cx} {e : Expr} {t t' : TT} (p : PT X e t) (i : ∀ σ H Q, t' σ H Q → t σ H Q) : PT X e t' := ⟨fun pins s σ H Q I h => p.run pins s σ H Q I (i _ _ _ h)⟩
theorem PW.imp {X : Cx} {e : Expr} {t t' : TT} (p : PW X e t) (i : ∀ σ H Q, t' σ H Q → t σ H Q) : PW X e t' := ⟨fun whole pins s σ H Q I h => p.run whole pins s σ H Q I (i _ _ _ h)⟩
theorem PA.imp {X : Cx} {e : List Expr} {t t' : TA} (p : PA X e t) (i : ∀ σ H Q, t' σ H Q → t σ H Q) : PA X e t' := ⟨fun pos pins s σ H Q I h => p.run pos pins s σ H Q I (i _ _ _ h)⟩
theorem PS.imp {X : Cx} {e : Stmt} {t t' : TS} (p : PS X e t) (i : ∀ D σ H, t' D σ H → t D σ H) : PS X e t' := ⟨fun pins s σ H D I h => p.run pins s σ H D I (i _ _ _ h)⟩
theorem PSs.imp {X : Cx} {e : List Stmt} {t t' : TS} (p : PSs X e t) (i : ∀ D σ H, t' D σ H → t D σ H) : PSs X e t' := ⟨fun pins s σ H D I h => p.run pins s σ H D I (i _ _ _ h)⟩

section
variable {K : PySem.W.Frag} {w w' : Wd} {H H' : Hp} {h h' : Hap} {σ : L2.St} {env : Env} {α β γ δ : Type}
theorem Post.step [Tbl] {VA : Wd → β → α → Prop} {r : Rs α} {Q : β → Hp → Prop} {E : XK} (s : Step w H w' H') (p : Post K gm VA w H r Q E) : Post K gm VA w' H' r Q E := by
  cases r with
  | ok a h => exact fun v w2 H2 s2 ok vr => p v w2 H2 (s.trans s2) ok vr
  | err c fs h => exact fun cv d w2 H2 hc s2 ok x => p cv d w2 H2 hc (s.trans s2) ok x
  | stuck => exact p
theorem PostS.step [Tbl] {r : RS} {D : Ends} {W : WX} (s : Step w H w' H') (p : PostS K gm w H r D W) : PostS K gm w' H' r D W := by
  cases r with
  | nx e h => exact fun v w2 H2 s2 ok vr => p v w2 H2 (s.trans s2) ok vr
  | bk e h => exact fun v w2 H2 s2 ok vr => p v w2 H2 (s.trans s2) ok vr
  | ct e h => exact fun v w2 H2 s2 ok vr => p v w2 H2 (s.trans s2) ok vr
  | rt e h => exact fun v w2 H2 s2 ok vr => p v w2 H2 (s.trans s2) ok vr
  | er c fs e h => exact fun cv d v w2 H2 hc s2 ok vr x => p cv d v w2 H2 hc (s.trans s2) ok vr x
  | stuck => exact p
/-- a part's result, then the rest -/
theorem Post.bind [Tbl] {VA : Wd → β → α → Prop} {VB : Wd → δ → γ → Prop} {r : Rs α} {f : α → Hap → Rs γ} {Q : δ → Hp → Prop} {Q1 : β → Hp → Prop} {E : XK} (p : Post K gm VB w H (r.bind f) Q E)
    (k : ∀ v a w' H' h', Step w H w' H' → Ok K w' H' h' → VA w' v a → Post K gm VB w' H' (f a h') Q E → Q1 v H') : Post K gm VA w H r Q1 E := by
  cases r with
  | ok a h => exact fun v w' H' s ok vr => k v a w' H' h s ok vr (Post.step s p)
  | err c fs h => exact p
  | stuck => exact p
/-- .. behind an expression a statement's flow -/
@[reducible] def RsS (r : Rs α) (env : Env) (f : α → Hap → RS) : RS := match r with
  | .ok a h => f a h
  | .err c fs h => .er c fs env h
  | .stuck => .stuck
theorem PostS.bind [Tbl] {VA : Wd → β → α → Prop} {r : Rs α} {f : α → Hap → RS} {D : Ends} {W : WX} {Q1 : β → Hp → Prop} (er : EnvR K w σ env) (p : PostS K gm w H (RsS r env f) D W)
    (k : ∀ v a w' H' h', Step w H w' H' → Ok K w' H' h' → VA w' v a → PostS K gm w' H' (f a h') D W → Q1 v H') : Post K gm VA w H r Q1 (fun c d H' => W c d σ H') := by
  cases r with
  | ok a h => exact fun v w' H' s ok vr => k v a w' H' h s ok vr (PostS.step s p)
  | err c fs h => exact fun cv d w' H' hc s ok x => p cv d σ w' H' hc s ok (er.mono s) x
  | stuck => exact p
theorem Post.ok [Tbl] {VA : Wd → β → α → Prop} {a : α} {v : β} {Q : β → Hp → Prop} {E : XK} (ok : Ok K w H h) (vr : VA w v a) (p : Post K gm VA w H (.ok a h) Q E) : Q v H := p v w H (Step.refl w H) ok vr
theorem Post.alloc [Tbl] {ds : D} {p : Addr} {o : HO} {Q : VK} {E : XK} (ok : Ok K w H h) (hp : H p = none) (vr : VR K ⟨upd w.F p o, w.ρ⟩ (.ref p) ds) (q : Post K gm (VR K) w H (.ok ds h) Q E) : Q (.ref p) (upd H p o) :=
  q _ _ _ (ok.alloc hp).2 (ok.alloc hp).1 vr
end

/-! ### names, constants -/
def mVar (i : Nat) : ME := fun env h => match env[i]? with
  | some (some d) => .ok d h
  | _ => .stuck
def mC (d : D) : ME := fun _ h => .ok d h
section
variable {X : Cx} {W : WX}
theorem e_var [Tbl] {i : Nat} {x : Str} {pos : Pos} (hN : X.N[i]? = some x) (hv : Vis X.env.scope x) (hd : (x == ("__debug__" : Str)) = false := by decide) (hcd : (x == ("__classdict__" : Str)) = false := by decide) : PE X (.Name x pos) (tE X.K X.mg W (mVar i)) :=
  PE.imp (pe_var hN hv hd hcd) fun σ H Q ⟨w, env, h, ok, er, p⟩ => by
    unfold mVar at p
    split at p
    · next d e =>
      obtain ⟨v, e1, vr⟩ := er.get i d e
      exact ⟨v, e1, p.ok ok vr⟩
    · exact p.elim
theorem e_c [Tbl] {e : Expr} {v : V} {d : D} (pe : PE X e (tC v)) (hv : ∀ w, VR X.K w v d) : PE X e (tE X.K X.mg W (mC d)) :=
  PE.imp pe fun σ H Q ⟨w, env, h, ok, er, p⟩ => p.ok ok (hv w)
theorem e_int [Tbl] {i : Int} {j : Nat} {pos : Pos} : PE X (.Constant (.int i) j pos) (tE X.K X.mg W (mC (.int i))) := e_c pe_int fun _ => .int i
theorem e_str [Tbl] {i : Str} {j : Nat} {pos : Pos} : PE X (.Constant (.str i) j pos) (tE X.K X.mg W (mC (.str i))) := e_c pe_str fun _ => .str i
theorem e_bl [Tbl] {i : Bool} {j : Nat} {pos : Pos} : PE X (.Constant (.bool i) j pos) (tE X.K X.mg W (mC (.bl i))) := e_c pe_bl fun _ => .bl i
theorem e_non [Tbl] {j : Nat} {pos : Pos} : PE X (.Constant .none j pos) (tE X.K X.mg W (mC .non)) := e_c pe_non fun _ => .non
/-- a constant of the module: an int, a text, a bool -/
theorem e_gint [Tbl] {x : Str} {i : Int} {pos : Pos} (hm : ∃ t, X.mg x = some (.int i t)) (hg : Gl X x) (hd : (x == ("__debug__" : Str)) = false := by decide) : PE X (.Name x pos) (tE X.K X.mg W (mC (.int i))) := by
  obtain ⟨t, hm⟩ := hm
  exact e_c (v := .int i) (pe_glob hg hm ⟨t, rfl⟩ hd) fun _ => .int i
theorem e_gstr [Tbl] {x : Str} {i : Str} {pos : Pos} (hm : ∃ t, X.mg x = some (.str i t)) (hg : Gl X x) (hd : (x == ("__debug__" : Str)) = false := by decide) : PE X (.Name x pos) (tE X.K X.mg W (mC (.str i))) := by
  obtain ⟨t, hm⟩ := hm
  exact e_c (v := .str i) (pe_glob hg hm ⟨t, rfl⟩ hd) fun _ => .str i
/-- a built-in class as a value -/
theorem e_ty [Tbl] {x : Str} {n : String} {pos : Pos} (hm : X.mg x = none) (hv : bootBuiltins x = some (.type n)) (hg : Gl X x) (hn : x ≠ "__name__" := by decide) (hd : (x == ("__debug__" : Str)) = false := by decide) : PE X (.Name x pos) (tE X.K X.mg W (mC (.ty n))) :=
  e_c (v := .ty n) (pe_bltn hg hm hv rfl hn hd) fun _ => .ty n

/-! ### operators -/
/-- a rule on values does what g does on data; it leaves the cells -/
def OpS [Tbl] (K : PySem.W.Frag) (r : R2) (g : D → D → Hap → Option D) : Prop := ∀ (w : Wd) (H : Hp) (h : Hap) (x y : V) (a b d : D) (Q : VK), Ok K w H h → VR K w x a → VR K w y b → g a b h = some d →
  (∀ v w' H', Step w H w' H' → Ok K w' H' h → VR K w' v d → Q v H') → r x y H Q
def UnS [Tbl] (K : PySem.W.Frag) (r : V → Hp → VK → Prop) (g : D → Hap → Option D) : Prop := ∀ (w : Wd) (H : Hp) (h : Hap) (x : V) (a d : D) (Q : VK), Ok K w H h → VR K w x a → g a h = some d →
  (∀ v w' H', Step w H w' H' → Ok K w' H' h → VR K w' v d → Q v H') → r x H Q
def rOr (r s : R2) : R2 := fun x y H Q => r x y H Q ∨ s x y H Q
theorem OpR.or {f : Value → Value → Sem Value} {r s : R2} (h1 : OpR X f r) (h2 : OpR X f s) : OpR X f (rOr r s) := fun pins t σ H x y v u Q I rx ry z => by
  rcases z with z | z
  · exact h1 pins t σ H x y v u Q I rx ry z
  · exact h2 pins t σ H x y v u Q I rx ry z
def mBin (g : D → D → Hap → Option D) (a b : ME) : ME := fun env h => (a env h).bind fun x h1 => (b env h1).bind fun y h2 => ofO (g x y h2) h2
def mUn (g : D → Hap → Option D) (a : ME) : ME := fun env h => (a env h).bind fun x h1 => ofO (g x h1) h1
theorem ofO_post [Tbl] {K : PySem.W.Frag} {α β : Type} {VA : Wd → β → α → Prop} {w : Wd} {H : Hp} {h : Hap} {o : Option α} {Q : β → Hp → Prop} {E : XK} (p : Post K gm VA w H (ofO o h) Q E) : ∃ d, o = some d ∧ ∀ v w' H', Step w H w' H' → Ok K w' H' h → VA w' v d → Q v H' := by
  cases o with
  | none => exact p.elim
  | some d => exact ⟨d, rfl, p⟩
theorem t_bin [Tbl] {K : PySem.W.Frag} {r : R2} {g : D → D → Hap → Option D} {a b : ME} (s : OpS K r g) : ∀ σ H Q, tE K gm W (mBin g a b) σ H Q → tOp r (tE K gm W a) (tE K gm W b) σ H Q := fun σ H Q ⟨w, env, h, ok, er, p⟩ =>
  ⟨w, env, h, ok, er, Post.bind p fun x da w1 H1 h1 s1 ok1 v1 p1 => ⟨w1, env, h1, ok1, er.mono s1, Post.bind p1 fun y db w2 H2 h2 s2 ok2 v2 p2 => by
    obtain ⟨d, e, q⟩ := ofO_post p2
    exact s w2 H2 h2 x y da db d Q ok2 (v1.mono s2) v2 e q⟩⟩
theorem t_un [Tbl] {K : PySem.W.Frag} {r : V → Hp → VK → Prop} {g : D → Hap → Option D} {a : ME} (s : UnS K r g) : ∀ σ H Q, tE K gm W (mUn g a) σ H Q → tUn r (tE K gm W a) σ H Q := fun σ H Q ⟨w, env, h, ok, er, p⟩ =>
  ⟨w, env, h, ok, er, Post.bind p fun x da w1 H1 h1 s1 ok1 v1 p1 => by
    obtain ⟨d, e, q⟩ := ofO_post p1
    exact s w1 H1 h1 x da d Q ok1 v1 e q⟩
theorem e_bin [Tbl] {op : Operator} {r : R2} {g : D → D → Hap → Option D} {a b : Expr} {ma mb : ME} {pos : Pos} (ho : OpR X (binaryOp op) r) (s : OpS X.K r g) (ha : PE X a (tE X.K X.mg W ma)) (hb : PE X b (tE X.K X.mg W mb)) : PE X (.BinOp a op b pos) (tE X.K X.mg W (mBin g ma mb)) := PE.imp (pe_op ho ha hb) (t_bin s)
theorem e_un [Tbl] {op : UnaryOp} {r : V → Hp → VK → Prop} {g : D → Hap → Option D} {a : Expr} {ma : ME} {pos : Pos} (ho : UnR X (unaryOp op) r) (s : UnS X.K r g) (ha : PE X a (tE X.K X.mg W ma)) : PE X (.UnaryOp op a pos) (tE X.K X.mg W (mUn g ma)) := PE.imp (pe_un ho ha) (t_un s)
theorem e_cmp [Tbl] {op : CmpOp} {r : R2} {g : D → D → Hap → Option D} {a b : Expr} {ma mb : ME} {pos : Pos} (ho : OpR X (compareOp op) r) (s : OpS X.K r g) (ha : PE X a (tE X.K X.mg W ma)) (hb : PE X b (tE X.K X.mg W mb)) (hm : behindInMarks op b = false) : PE X (.Compare a [op] [b] pos) (tE X.K X.mg W (mBin g ma mb)) := PE.imp (pe_cmpR ho ha hb hm) (t_bin s)

/-! ### tests -/
def oB : D → Option Bool
  | .bl b => some b
  | _ => none
def mTst (a : ME) : MT := fun env h => (a env h).bind fun x h1 => ofO (oB x) h1
theorem oB_some {d : D} {b : Bool} (e : oB d = some b) : d = .bl b := by
  cases d <;> simp [oB] at e
  rw [e]
theorem t_tst [Tbl] {K : PySem.W.Frag} {a : ME} {te : TE} (ht : ∀ σ H Q, tE K gm W a σ H Q → te σ H Q) : ∀ σ H Q, tT K gm W (mTst a) σ H Q → tTest te σ H Q := fun σ H Q ⟨w, env, h, ok, er, p⟩ =>
  ht _ _ _ ⟨w, env, h, ok, er, Post.bind p fun x da w1 H1 h1 s1 ok1 v1 p1 => by
    obtain ⟨b, e, q⟩ := ofO_post p1
    have e2 := oB_some e
    subst e2
    cases v1
    exact ⟨b, rfl, q b w1 H1 (Step.refl _ _) ok1 rfl⟩⟩
theorem c_cmp [Tbl] {op : CmpOp} {r : R2} {g : D → D → Hap → Option D} {a b : Expr} {ma mb : ME} {pos : Pos} (ho : OpR X (compareOp op) r) (s : OpS X.K r g) (ha : PE X a (tE X.K X.mg W ma)) (hb : PE X b (tE X.K X.mg W mb)) (hm : behindInMarks op b = false) : PT X (.Compare a [op] [b] pos) (tT X.K X.mg W (mTst (mBin g ma mb))) := PT.imp (pt_cmpR ho ha hb hm) (t_tst (t_bin s))
/-- a value that is True or False -/
theorem c_val [Tbl] {e : Expr} {m : ME} (hp : PE X e (tE X.K X.mg W m)) (he : ∀ whole, isTrue e X.env whole = (do let v ← whole; standAt e.pos; holding [v] (truthy v)) := by intro _; rfl) : PT X e (tT X.K X.mg W (mTst m)) := PT.imp (pt_val hp he) (t_tst fun _ _ _ h => h)
def mNotT (a : MT) : MT := fun env h => (a env h).bind fun b h1 => .ok (!b) h1
def mAndT (a b : MT) : MT := fun env h => (a env h).bind fun x h1 => if x = true then b env h1 else .ok false h1
def mOrT (a b : MT) : MT := fun env h => (a env h).bind fun x h1 => if x = true then .ok true h1 else b env h1
theorem c_not [Tbl] {a : Expr} {ma : MT} {pos : Pos} (ha : PT X a (tT X.K X.mg W ma)) : PT X (.UnaryOp .Not a pos) (tT X.K X.mg W (mNotT ma)) := PT.imp (pt_not ha) fun σ H Q ⟨w, env, h, ok, er, p⟩ =>
  ⟨w, env, h, ok, er, Post.bind p fun x da w1 H1 h1 s1 ok1 v1 p1 => by
    cases v1
    exact p1 _ w1 H1 (Step.refl _ _) ok1 rfl⟩
theorem w_and [Tbl] {a b : Expr} {rest : List Expr} {ma mb : MT} {pos : Pos} (ha : PT X a (tT X.K X.mg W ma)) (hb : PW X (.BoolOp .And (b :: rest) pos) (tT X.K X.mg W mb)) : PW X (.BoolOp .And (a :: b :: rest) pos) (tT X.K X.mg W (mAndT ma mb)) := PW.imp (pw_and ha hb) fun σ H Q ⟨w, env, h, ok, er, p⟩ =>
  ⟨w, env, h, ok, er, Post.bind p fun x da w1 H1 h1 s1 ok1 v1 p1 => by
    cases v1
    cases x with
    | true => exact ⟨w1, env, h1, ok1, er.mono s1, p1⟩
    | false => exact p1 _ w1 H1 (Step.refl _ _) ok1 rfl⟩
theorem w_and1 [Tbl] {a : Expr} {ma : MT} {pos : Pos} (ha : PT X a (tT X.K X.mg W ma)) : PW X (.BoolOp .And [a] pos) (tT X.K X.mg W ma) := pw_and1 ha
theorem w_or [Tbl] {a b : Expr} {rest : List Expr} {ma mb : MT} {pos : Pos} (ha : PT X a (tT X.K X.mg W ma)) (hb : PW X (.BoolOp .Or (b :: rest) pos) (tT X.K X.mg W mb)) : PW X (.BoolOp .Or (a :: b :: rest) pos) (tT X.K X.mg W (mOrT ma mb)) := PW.imp (pw_or ha hb) fun σ H Q ⟨w, env, h, ok, er, p⟩ =>
  ⟨w, env, h, ok, er, Post.bind p fun x da w1 H1 h1 s1 ok1 v1 p1 => by
    cases v1
    cases x with
    | false => exact ⟨w1, env, h1, ok1, er.mono s1, p1⟩
    | true => exact p1 _ w1 H1 (Step.refl _ _) ok1 rfl⟩
theorem w_or1 [Tbl] {a : Expr} {ma : MT} {pos : Pos} (ha : PT X a (tT X.K X.mg W ma)) : PW X (.BoolOp .Or [a] pos) (tT X.K X.mg W ma) := pw_or1 ha
theorem c_w [Tbl] {a : Expr} {ma : MT} (h : PW X a (tT X.K X.mg W ma)) : PT X a (tT X.K X.mg W ma) := PW.pt h
/-- and, or, not as values (all but the last are True or False) -/
def mAnd (a b : ME) : ME := fun env h => (a env h).bind fun x h1 => match x with
  | .bl true => b env h1
  | .bl false => .ok (.bl false) h1
  | _ => .stuck
def mOr (a b : ME) : ME := fun env h => (a env h).bind fun x h1 => match x with
  | .bl true => .ok (.bl true) h1
  | .bl false => b env h1
  | _ => .stuck
theorem e_and [Tbl] {a b : Expr} {rest : List Expr} {ma mb : ME} {pos : Pos} (ha : PE X a (tE X.K X.mg W ma)) (hb : PE X (.BoolOp .And (b :: rest) pos) (tE X.K X.mg W mb)) : PE X (.BoolOp .And (a :: b :: rest) pos) (tE X.K X.mg W (mAnd ma mb)) := PE.imp (pe_and ha hb) fun σ H Q ⟨w, env, h, ok, er, p⟩ =>
  ⟨w, env, h, ok, er, Post.bind p fun x da w1 H1 h1 s1 ok1 v1 p1 => by
    cases v1 <;> try exact p1.elim
    next b =>
    refine ⟨b, rfl, ?_⟩
    cases b with
    | true => exact ⟨w1, env, h1, ok1, er.mono s1, p1⟩
    | false => exact p1.ok ok1 (.bl false)⟩
theorem e_or [Tbl] {a b : Expr} {rest : List Expr} {ma mb : ME} {pos : Pos} (ha : PE X a (tE X.K X.mg W ma)) (hb : PE X (.BoolOp .Or (b :: rest) pos) (tE X.K X.mg W mb)) : PE X (.BoolOp .Or (a :: b :: rest) pos) (tE X.K X.mg W (mOr ma mb)) := PE.imp (pe_or ha hb) fun σ H Q ⟨w, env, h, ok, er, p⟩ =>
  ⟨w, env, h, ok, er, Post.bind p fun x da w1 H1 h1 s1 ok1 v1 p1 => by
    cases v1 <;> try exact p1.elim
    next b =>
    refine ⟨b, rfl, ?_⟩
    cases b with
    | false => exact ⟨w1, env, h1, ok1, er.mono s1, p1⟩
    | true => exact p1.ok ok1 (.bl true)⟩
theorem e_one [Tbl] {op : BoolOp} {a : Expr} {ma : ME} {pos : Pos} (ha : PE X a (tE X.K X.mg W ma)) : PE X (.BoolOp op [a] pos) (tE X.K X.mg W ma) := pe_one ha
def mNot (a : ME) : ME := fun env h => (a env h).bind fun x h1 => match x with
  | .bl b => .ok (.bl (!b)) h1
  | _ => .stuck
theorem e_not [Tbl] {a : Expr} {ma : ME} {pos : Pos} (ha : PE X a (tE X.K X.mg W ma)) : PE X (.UnaryOp .Not a pos) (tE X.K X.mg W (mNot ma)) := PE.imp (pe_not ha) fun σ H Q ⟨w, env, h, ok, er, p⟩ =>
  ⟨w, env, h, ok, er, Post.bind p fun x da w1 H1 h1 s1 ok1 v1 p1 => by
    cases v1 <;> try exact p1.elim
    next b => exact ⟨b, rfl, p1.ok ok1 (.bl _)⟩⟩
def mIf (t : MT) (a b : ME) : ME := fun env h => (t env h).bind fun x h1 => if x = true then a env h1 else b env h1
theorem e_if [Tbl] {t a b : Expr} {mt : MT} {ma mb : ME} {pos : Pos} (ht : PT X t (tT X.K X.mg W mt)) (ha : PE X a (tE X.K X.mg W ma)) (hb : PE X b (tE X.K X.mg W mb)) : PE X (.IfExp t a b pos) (tE X.K X.mg W (mIf mt ma mb)) := PE.imp (pe_ifExp ht ha hb) fun σ H Q ⟨w, env, h, ok, er, p⟩ =>
  ⟨w, env, h, ok, er, Post.bind p fun x da w1 H1 h1 s1 ok1 v1 p1 => by
    cases v1
    cases x with
    | false => exact ⟨w1, env, h1, ok1, er.mono s1, p1⟩
    | true => exact ⟨w1, env, h1, ok1, er.mono s1, p1⟩⟩

/-! ### argument lists, displays -/
def mNil : MA := fun _ h => .ok [] h
def mCons (a : ME) (r : MA) : MA := fun env h => (a env h).bind fun x h1 => (r env h1).bind fun xs h2 => .ok (x :: xs) h2
theorem a_nil [Tbl] : PA X [] (tA X.K X.mg W mNil) := PA.imp pa_nil fun σ H Q ⟨w, env, h, ok, er, p⟩ => p.ok ok .nil
theorem a_cons [Tbl] {e : Expr} {es : List Expr} {m : ME} {r : MA} (ha : PE X e (tE X.K X.mg W m)) (hr : PA X es (tA X.K X.mg W r)) (hs : starEach (e :: es) X.env = (false, eval e X.env) :: starEach es X.env := by rfl) : PA X (e :: es) (tA X.K X.mg W (mCons m r)) :=
  PA.imp (pa_cons ha hr hs) fun σ H Q ⟨w, env, h, ok, er, p⟩ => ⟨w, env, h, ok, er, Post.bind p fun x da w1 H1 h1 s1 ok1 v1 p1 => ⟨w1, env, h1, ok1, er.mono s1, Post.bind p1 fun xs ds w2 H2 h2 s2 ok2 v2 p2 => p2.ok ok2 (.cons (v1.mono s2) v2)⟩⟩
def mTup (a : MA) : ME := fun env h => (a env h).bind fun xs h1 => if xs.length ≤ sizeLine then .ok (.tup xs) h1 else .stuck
def mLst (a : MA) : ME := fun env h => (a env h).bind fun xs h1 => if xs.length ≤ sizeLine then .ok (.lst xs) h1 else .stuck
/-- a list that will change -/
def mCel (a : MA) : ME := fun env h => (a env h).bind fun xs h1 => if xs.length ≤ sizeLine then .ok (.ref h1.length) (h1 ++ [.lst xs]) else .stuck
section
variable {K : PySem.W.Frag} {w : Wd} {H : Hp} {h : Hap} {p : Addr} {vs : List V} {ds : List D}
theorem VRs.alloc [Tbl] (ok : Ok K w H h) {o : HO} (hp : H p = none) (r : VRs K w vs ds) : VRs K ⟨upd w.F p o, w.ρ⟩ vs ds := r.mono (ok.alloc hp).2
theorem vr_lst [Tbl] (ok : Ok K w H h) (hp : H p = none) (r : VRs K w vs ds) : VR K ⟨upd w.F p (.lst vs), w.ρ⟩ (.ref p) (.lst ds) := .lst upd_same (r.alloc ok hp)
theorem vr_tup [Tbl] (ok : Ok K w H h) (hp : H p = none) (r : VRs K w vs ds) : VR K ⟨upd w.F p (.tup vs), w.ρ⟩ (.ref p) (.tup ds) := .tup (.inl (.inl upd_same)) (r.alloc ok hp)
end
theorem e_tup [Tbl] {es : List Expr} {m : MA} {k : Nat} {pos : Pos} (ha : PA X es (tA X.K X.mg W m)) : PE X (.Tuple es k pos) (tE X.K X.mg W (mTup m)) := PE.imp (pe_tup ha) fun σ H Q ⟨w, env, h, ok, er, p⟩ =>
  ⟨w, env, h, ok, er, Post.bind p fun x da w1 H1 h1 s1 ok1 v1 p1 => by
    by_cases hl : da.length ≤ sizeLine
    · rw [if_pos hl] at p1
      exact ⟨by rw [v1.length]; exact hl, fun a ha => p1.alloc ok1 ha (vr_tup ok1 ha v1)⟩
    · rw [if_neg hl] at p1
      exact p1.elim⟩
theorem e_lst [Tbl] {es : List Expr} {m : MA} {pos : Pos} (ha : PA X es (tA X.K X.mg W m)) : PE X (.List es pos) (tE X.K X.mg W (mLst m)) := PE.imp (pe_lst ha) fun σ H Q ⟨w, env, h, ok, er, p⟩ =>
  ⟨w, env, h, ok, er, Post.bind p fun x da w1 H1 h1 s1 ok1 v1 p1 => by
    by_cases hl : da.length ≤ sizeLine
    · rw [if_pos hl] at p1
      exact ⟨by rw [v1.length]; exact hl, fun a ha => p1.alloc ok1 ha (vr_lst ok1 ha v1)⟩
    · rw [if_neg hl] at p1
      exact p1.elim⟩
theorem e_cel [Tbl] {es : List Expr} {m : MA} {pos : Pos} (ha : PA X es (tA X.K X.mg W m)) : PE X (.List es pos) (tE X.K X.mg W (mCel m)) := PE.imp (pe_lst ha) fun σ H Q ⟨w, env, h, ok, er, p⟩ =>
  ⟨w, env, h, ok, er, Post.bind p fun x da w1 H1 h1 s1 ok1 v1 p1 => by
    by_cases hl : da.length ≤ sizeLine
    · rw [if_pos hl] at p1
      refine ⟨by rw [v1.length]; exact hl, fun a ha => ?_⟩
      have q := ok1.cell (c := .lst da) (o := .lst x) ha v1
      refine p1 _ _ _ q.2 q.1 (.ref ?_)
      show (w1.ρ ++ [a])[h1.length]? = some a
      rw [← ok1.len, List.getElem?_append_right (Nat.le_refl _), Nat.sub_self]
      rfl
    · rw [if_neg hl] at p1
      exact p1.elim⟩
end
end Vi

set_option Elab.async false
set_option linter.all false
set_option autoImplicit false
set_option maxRecDepth 100000
set_option maxHeartbeats 2000000
namespace Vi
open PySem PySem.Spec PyProof.Rows L2
variable {gm : Str → Option Value}
open scoped Classical
noncomputable section

/-! ### readers of data -/
def ch (c : Nat) : Str := ⟨#[c]⟩
def getL (d : D) (h : Hap) : Option (List D) := match d with
  | .lst xs => some xs
  | .klst xs => some xs
  | .ref i => match h[i]? with
    | some (.lst xs) => some xs
    | _ => none
  | _ => none
def getT (d : D) : Option (List D) := match d with
  | .tup xs => some xs
  | _ => none
/-- list or tuple -/
def getQ (d : D) (h : Hap) : Option (List D) := match d with
  | .tup xs => some xs
  | d => getL d h
/-- a list that stands for itself in the heap -/
def getM (d : D) (h : Hap) : Option (List D) := match d with
  | .lst xs => some xs
  | .ref i => match h[i]? with
    | some (.lst xs) => some xs
    | _ => none
  | _ => none
/-- what a for walks: items of a list, a tuple, the signs of a text -/
def seqOf (d : D) (h : Hap) : Option (List D) := match d with
  | .str z => some (z.cps.toList.map fun c => .str (ch c))
  | .tup xs => some xs
  | d => getL d h
section
variable {K : PySem.W.Frag} {w : Wd} {H : Hp} {h : Hap} {x : V} {d : D} {ds : List D}
theorem getM_ok [Tbl] (ok : Ok K w H h) (r : VR K w x d) (e : getM d h = some ds) : ∃ a vs, x = .ref a ∧ H a = some (.lst vs) ∧ VRs K w vs ds := by
  cases r <;> simp [getM] at e
  case lst a vs ds' e1 e2 =>
    subst e
    exact ⟨a, vs, rfl, ok.sub _ _ e1, e2⟩
  case ref a i e1 =>
    split at e
    · next xs e2 =>
      cases e
      obtain ⟨_, o, e3, e4⟩ := ok.cel i a _ e1 e2
      cases o <;> simp [CRel] at e4
      next vs => exact ⟨a, vs, rfl, e3, e4⟩
    · cases e
theorem getL_ok [Tbl] (ok : Ok K w H h) (r : VR K w x d) (e : getL d h = some ds) : ∃ a vs, x = .ref a ∧ SqL K H a vs ∧ VRs K w vs ds := by
  cases r <;> simp [getL] at e
  case lst a vs ds' e1 e2 =>
    subst e
    exact ⟨a, vs, rfl, .inl (.inl (ok.sub _ _ e1)), e2⟩
  case klst a vs ds' e1 e2 =>
    subst e
    exact ⟨a, vs, rfl, sqL_mono ok.sub e1, e2⟩
  case ref a i e1 =>
    split at e
    · next xs e2 =>
      cases e
      obtain ⟨_, o, e3, e4⟩ := ok.cel i a _ e1 e2
      cases o <;> simp [CRel] at e4
      next vs => exact ⟨a, vs, rfl, .inl (.inl e3), e4⟩
    · cases e
theorem getT_ok [Tbl] (ok : Ok K w H h) (r : VR K w x d) (e : getT d = some ds) : ∃ a vs, x = .ref a ∧ SqT K H a vs ∧ VRs K w vs ds := by
  cases r <;> simp [getT] at e
  case tup a vs ds' e1 e2 =>
    subst e
    exact ⟨a, vs, rfl, sqT_mono ok.sub e1, e2⟩
theorem getQ_ok [Tbl] (ok : Ok K w H h) (r : VR K w x d) (e : getQ d h = some ds) : ∃ a vs, x = .ref a ∧ (SqL K H a vs ∨ SqT K H a vs) ∧ VRs K w vs ds := by
  unfold getQ at e
  split at e
  · cases e
    obtain ⟨a, vs, q1, q2, q3⟩ := getT_ok ok r rfl
    exact ⟨a, vs, q1, .inr q2, q3⟩
  · obtain ⟨a, vs, q1, q2, q3⟩ := getL_ok ok r e
    exact ⟨a, vs, q1, .inl q2, q3⟩
end

/-! ### arithmetic -/
/-- + -/
def dAdd : D → D → Hap → Option D := fun a b h => match a, b with
  | .int i, .int j => some (.int (i + j))
  | .str x, .str y => if x.length + y.length ≤ sizeLine then some (.str (x ++ y)) else none
  | .tup xs, .tup ys => if xs.length + ys.length ≤ sizeLine then some (.tup (xs ++ ys)) else none
  | a, b => match getM a h, getM b h with
    | some xs, some ys => if xs.length + ys.length ≤ sizeLine then some (.lst (xs ++ ys)) else none
    | _, _ => none
def rAddS' : R2 := fun x y H Q => ∃ i j, x = .str i ∧ y = .str j ∧ i.length + j.length ≤ sizeLine ∧ Q (.str (i ++ j)) H
def rAdd' (K : PySem.W.Frag) : R2 := rOr (rI0 fun i j => .int (i + j)) (rOr rAddS' (rOr rCat (rCatA K)))
theorem o_add {X : Cx} : OpR X (binaryOp .Add) (rAdd' X.K) := OpR.or op_add (OpR.or op_add_str (OpR.or op_cat op_catA))
theorem s_add [Tbl] {K : PySem.W.Frag} : OpS K (rAdd' K) dAdd := by
  intro w H h x y a b d Q ok vx vy e q
  have cat : (match getM a h, getM b h with
    | some xs, some ys => if xs.length + ys.length ≤ sizeLine then some (D.lst (xs ++ ys)) else none
    | _, _ => none) = some d → rAdd' K x y H Q := by
    intro e
    split at e
    · next xs ys e1 e2 =>
      obtain ⟨p1, v1, rfl, h1, r1⟩ := getM_ok ok vx e1
      obtain ⟨p2, v2, rfl, h2, r2⟩ := getM_ok ok vy e2
      split at e
      · next hl =>
        cases e
        refine .inr (.inr (.inl ⟨p1, p2, v1, v2, rfl, rfl, h1, h2, by rw [r1.length, r2.length]; exact hl, fun p hp => ?_⟩))
        exact q _ _ _ (ok.alloc hp).2 (ok.alloc hp).1 (vr_lst ok hp (r1.append r2))
      · cases e
    · cases e
  unfold dAdd at e
  split at e
  · cases e
    cases vx
    cases vy
    exact .inl ⟨_, _, rfl, rfl, q _ _ _ (Step.refl _ _) ok (.int _)⟩
  · split at e
    · next hl =>
      cases e
      cases vx
      cases vy
      exact .inr (.inl ⟨_, _, rfl, rfl, hl, q _ _ _ (Step.refl _ _) ok (.str _)⟩)
    · cases e
  · split at e
    · next xs ys hl =>
      cases e
      obtain ⟨p1, v1, rfl, h1, r1⟩ := getT_ok ok vx rfl
      obtain ⟨p2, v2, rfl, h2, r2⟩ := getT_ok ok vy rfl
      refine .inr (.inr (.inr ⟨p1, p2, v1, v2, rfl, rfl, h1, h2, by rw [r1.length, r2.length]; exact hl, fun z => ?_, fun z z2 => ?_, fun z z2 p hp => ?_⟩))
      · subst z
        have : xs = [] := by cases r1; rfl
        subst this
        exact q _ _ _ (Step.refl _ _) ok vy
      · subst z2
        have : ys = [] := by cases r2; rfl
        subst this
        rw [List.append_nil] at q
        exact q _ _ _ (Step.refl _ _) ok vx
      · exact q _ _ _ (ok.alloc hp).2 (ok.alloc hp).1 (vr_tup ok hp (r1.append r2))
    · cases e
  · exact cat e
def dSub : D → D → Hap → Option D := fun a b _ => match a, b with
  | .int i, .int j => some (.int (i - j))
  | _, _ => none
theorem s_I0 [Tbl] {K : PySem.W.Frag} {g : Int → Int → V} {f : D → D → Hap → Option D} (hf : ∀ a b h d, f a b h = some d → ∃ i j, a = .int i ∧ b = .int j ∧ ∀ w, VR K w (g i j) d) : OpS K (rI0 g) f := by
  intro w H h x y a b d Q ok vx vy e q
  obtain ⟨i, j, rfl, rfl, e'⟩ := hf a b h d e
  cases vx
  cases vy
  exact ⟨i, j, rfl, rfl, q _ _ _ (Step.refl _ _) ok (e' w)⟩
theorem s_I [Tbl] {K : PySem.W.Frag} {C : Int → Int → Prop} {g : Int → Int → V} {f : D → D → Hap → Option D} (hf : ∀ a b h d, f a b h = some d → ∃ i j, a = .int i ∧ b = .int j ∧ C i j ∧ ∀ w, VR K w (g i j) d) : OpS K (rI C g) f := by
  intro w H h x y a b d Q ok vx vy e q
  obtain ⟨i, j, rfl, rfl, c, e'⟩ := hf a b h d e
  cases vx
  cases vy
  exact ⟨i, j, rfl, rfl, c, q _ _ _ (Step.refl _ _) ok (e' w)⟩
theorem s_sub [Tbl] {K : PySem.W.Frag} : OpS K (rI0 fun i j => .int (i - j)) dSub := s_I0 fun a b h d e => by
  unfold dSub at e
  split at e <;> cases e
  exact ⟨_, _, rfl, rfl, fun _ => .int _⟩
def dMod : D → D → Hap → Option D := fun a b _ => match a, b with
  | .int i, .int j => if j ≠ 0 then some (.int (i.fmod j)) else none
  | _, _ => none
theorem s_mod [Tbl] {K : PySem.W.Frag} : OpS K (rI (fun _ j => j ≠ 0) fun i j => .int (i.fmod j)) dMod := s_I fun a b h d e => by
  unfold dMod at e
  split at e
  · split at e
    · next c => cases e; exact ⟨_, _, rfl, rfl, c, fun _ => .int _⟩
    · cases e
  · cases e
def dDiv : D → D → Hap → Option D := fun a b _ => match a, b with
  | .int i, .int j => if CDivN i j then some (.int (i.fdiv j)) else none
  | _, _ => none
theorem s_div [Tbl] {K : PySem.W.Frag} : OpS K (rI CDivN fun i j => .int (i.fdiv j)) dDiv := s_I fun a b h d e => by
  unfold dDiv at e
  split at e
  · split at e
    · next c => cases e; exact ⟨_, _, rfl, rfl, c, fun _ => .int _⟩
    · cases e
  · cases e
def dPow : D → D → Hap → Option D := fun a b _ => match a, b with
  | .int i, .int j => if CPow i j then some (.int (i ^ j.toNat)) else none
  | _, _ => none
theorem s_pow [Tbl] {K : PySem.W.Frag} : OpS K (rI CPow fun i j => .int (i ^ j.toNat)) dPow := s_I fun a b h d e => by
  unfold dPow at e
  split at e
  · split at e
    · next c => cases e; exact ⟨_, _, rfl, rfl, c, fun _ => .int _⟩
    · cases e
  · cases e
/-- * : ints (one of them small), a text by an int -/
def dMul : D → D → Hap → Option D := fun a b _ => match a, b with
  | .int i, .int j => if CMul i j then some (.int (i * j)) else none
  | .str z, .int n => if 0 ≤ n ∧ n < 2 ^ 62 ∧ z.length * n.toNat ≤ sizeLine then some (.str ⟨(List.replicate n.toNat z.cps.toList).flatten.toArray⟩) else none
  | _, _ => none
def rMulS : R2 := fun x y H Q => ∃ z n, x = .str z ∧ y = .int n ∧ (0 ≤ n ∧ n < 2 ^ 62 ∧ z.length * n.toNat ≤ sizeLine) ∧ Q (.str ⟨(List.replicate n.toNat z.cps.toList).flatten.toArray⟩) H
theorem foldl_app {α : Type} : ∀ (n : Nat) (b : Array α) (acc : Array α), ((List.replicate n b).foldl (· ++ ·) acc).toList = acc.toList ++ (List.replicate n b.toList).flatten
  | 0, _, _ => by simp
  | n + 1, b, acc => by
    rw [List.replicate_succ, List.foldl_cons, foldl_app n b, List.replicate_succ, List.flatten_cons]
    simp
theorem mul_is {z : Str} {n : Int} (h0 : 0 ≤ n) : Txt.mul z n = ⟨(List.replicate n.toNat z.cps.toList).flatten.toArray⟩ := by
  unfold Txt.mul
  by_cases h1 : n < 1
  · rw [if_pos h1]
    have : n = 0 := by omega
    subst this
    rfl
  · rw [if_neg h1]
    by_cases h2 : (n == 1 || z.length == 0) = true
    · rw [if_pos h2]
      obtain ⟨cs⟩ := z
      rcases (Bool.or_eq_true_iff.mp h2) with q | q
      · have : n = 1 := by simpa using q
        subst this
        simp
      · have e : cs.size = 0 := by simpa [Str.length] using q
        have e2 : cs = #[] := Array.eq_empty_of_size_eq_zero e
        subst e2
        simp
    · rw [if_neg h2]
      congr 1
      apply Array.ext'
      rw [foldl_app]
      simp
theorem op_mulS {X : Cx} : OpR X (binaryOp .Mult) rMulS := by
  intro pins s σ H x y v u Q I rx ry h
  obtain ⟨z, n, rfl, rfl, ⟨h0, h1, h2⟩, q⟩ := h
  obtain ⟨t, rfl⟩ := rx
  obtain ⟨t2, rfl⟩ := ry
  have hs : sizeLine = 16777216 := sizeLine_eq
  refine SB.mul (x := z) ⟨?_, fun h3 h4 h5 => ?_, fun h3 h4 => ?_⟩ fun t' k => ?_
  · simp; omega
  · have e0 : z.length ≠ 0 := fun e => by simp [e] at h4
    have : (z.length : Int) ≤ 16777216 := by
      have : z.length * 1 ≤ z.length * n.toNat := Nat.mul_le_mul_left _ (by omega)
      omega
    have hd : (16777216 : Int) ≤ (2 ^ 63 - 1) / n := by
      refine (Int.le_ediv_iff_mul_le (by omega)).mpr ?_
      have : n ≤ 16777216 := by
        have : 1 * n.toNat ≤ z.length * n.toNat := Nat.mul_le_mul_right _ (by omega)
        omega
      omega
    omega
  · show Builtin.Str.tooLong _ = false
    unfold Builtin.Str.tooLong
    simp
    omega
  · rw [mul_is h0]
    exact ⟨.str _, H, by obtain ⟨hh, g, d, tk, os⟩ := s; exact I.tok _, ⟨_, rfl⟩, q⟩
def rMul' : R2 := rOr (rI CMul fun i j => .int (i * j)) rMulS
theorem o_mul {X : Cx} : OpR X (binaryOp .Mult) rMul' := OpR.or op_mul op_mulS
theorem s_mul [Tbl] {K : PySem.W.Frag} : OpS K rMul' dMul := by
  intro w H h x y a b d Q ok vx vy e q
  unfold dMul at e
  split at e
  · split at e
    · next c =>
      cases e
      cases vx
      cases vy
      exact .inl ⟨_, _, rfl, rfl, c, q _ _ _ (Step.refl _ _) ok (.int _)⟩
    · cases e
  · split at e
    · next c =>
      cases e
      cases vx
      cases vy
      exact .inr ⟨_, _, rfl, rfl, c, q _ _ _ (Step.refl _ _) ok (.str _)⟩
    · cases e
  · cases e
def dNeg : D → Hap → Option D := fun a _ => match a with
  | .int i => some (.int (-i))
  | _ => none
theorem s_neg [Tbl] {K : PySem.W.Frag} : UnS K (rU fun i => .int (-i)) dNeg := by
  intro w H h x a d Q ok vx e q
  unfold dNeg at e
  split at e <;> cases e
  cases vx
  exact ⟨_, rfl, q _ _ _ (Step.refl _ _) ok (.int _)⟩

/-! ### comparisons -/
mutual
def D.py : D → Option PyData
  | .non => some .none
  | .bl b => some (.bool b)
  | .int i => some (.int i)
  | .str x => some (.str x)
  | .lst xs => (D.pys xs).map .list
  | .klst xs => (D.pys xs).map .list
  | .tup xs => (D.pys xs).map .tuple
  | .ref _ => none
  | .ty _ => none
def D.pys : List D → Option (List PyData)
  | [] => some []
  | d :: ds => match d.py, D.pys ds with
    | some x, some xs => some (x :: xs)
    | _, _ => none
end
def pyOf (d : D) (h : Hap) : Option PyData := match d with
  | .ref i => match h[i]? with
    | some (.lst xs) => (D.pys xs).map .list
    | _ => none
  | d => d.py
mutual
theorem VR.dp {K : PySem.W.Frag} {w : Wd} {H : Hp} (sub : ∀ a o, w.F a = some o → H a = some o) : ∀ {x : V} {d : D} {p : PyData}, VR K w x d → d.py = some p → Dp K H x p
  | _, _, _, .non, e => by simp [D.py] at e; subst e; exact .non
  | _, _, _, .bl b, e => by simp [D.py] at e; subst e; exact .bl b
  | _, _, _, .int b, e => by simp [D.py] at e; subst e; exact .int b
  | _, _, _, .str b, e => by simp [D.py] at e; subst e; exact .str b
  | _, _, _, .ty b, e => by simp [D.py] at e
  | _, _, _, .ref b, e => by simp [D.py] at e
  | _, _, _, .lst e1 e2, e => by
    simp [D.py] at e
    obtain ⟨q, e3, rfl⟩ := e
    exact .lst (.inl (.inl (sub _ _ e1))) (VRs.dp sub e2 e3)
  | _, _, _, .klst e1 e2, e => by
    simp [D.py] at e
    obtain ⟨q, e3, rfl⟩ := e
    exact .lst (sqL_mono sub e1) (VRs.dp sub e2 e3)
  | _, _, _, .tup e1 e2, e => by
    simp [D.py] at e
    obtain ⟨q, e3, rfl⟩ := e
    exact .tup (sqT_mono sub e1) (VRs.dp sub e2 e3)
theorem VRs.dp {K : PySem.W.Frag} {w : Wd} {H : Hp} (sub : ∀ a o, w.F a = some o → H a = some o) : ∀ {x : List V} {d : List D} {p : List PyData}, VRs K w x d → D.pys d = some p → DpAll K H x p
  | _, _, _, .nil, e => by simp [D.pys] at e; subst e; exact .nil
  | _, _, _, .cons a b, e => by
    unfold D.pys at e
    split at e
    · next x xs e1 e2 =>
      cases e
      exact .cons (VR.dp sub a e1) (VRs.dp sub b e2)
    · cases e
end
theorem pyOf_ok [Tbl] {K : PySem.W.Frag} {w : Wd} {H : Hp} {h : Hap} {x : V} {d : D} {p : PyData} (ok : Ok K w H h) (r : VR K w x d) (e : pyOf d h = some p) : Dp K H x p := by
  unfold pyOf at e
  split at e
  · next i =>
    split at e
    · next xs e2 =>
      cases r
      next a e1 =>
      obtain ⟨_, o, e3, e4⟩ := ok.cel i a _ e1 e2
      cases o <;> simp [CRel] at e4
      simp at e
      obtain ⟨q, e5, rfl⟩ := e
      exact .lst (.inl (.inl e3)) (VRs.dp ok.sub e4 e5)
    · cases e
  · exact VR.dp ok.sub r e
/-- == -/
def eqO (a b : D) (h : Hap) : Option Bool := match a, b with
  | .str x, .str y => some (decide (x = y))
  | .int x, .int y => some (decide (x = y))
  | .bl x, .bl y => some (decide (x = y))
  | a, b => match pyOf a h, pyOf b h with
    | some p, some q => if SeqAt.shaped p = true ∧ SeqAt.shaped q = true then some (PyData.eqv p q) else none
    | _, _ => none
def dEq : D → D → Hap → Option D := fun a b h => (eqO a b h).map .bl
def dNe : D → D → Hap → Option D := fun a b h => (eqO a b h).map fun b => .bl (!b)
def rEq' (K : PySem.W.Frag) : R2 := rOr rEq (rEqD K)
def rNe' (K : PySem.W.Frag) : R2 := rOr rNe (rNeD K)
theorem o_eq {X : Cx} (hu : X.A.units + 64 < cLine) : OpR X (compareOp .Eq) (rEq' X.K) := OpR.or op_eq (op_eqD hu)
theorem o_ne {X : Cx} (hu : X.A.units + 64 < cLine) : OpR X (compareOp .NotEq) (rNe' X.K) := OpR.or op_ne (op_neD hu)
theorem s_eq [Tbl] {K : PySem.W.Frag} : OpS K (rEq' K) dEq := by
  intro w H h x y a b d Q ok vx vy e0 q
  obtain ⟨z, e, ez⟩ := Option.map_eq_some_iff.mp e0
  clear e0
  subst ez
  have fin : Q (.bl z) H := q _ _ _ (Step.refl _ _) ok (.bl _)
  unfold eqO at e
  split at e
  · cases e
    cases vx
    cases vy
    exact .inl ⟨rfl, by simpa using fin⟩
  · cases e
    cases vx
    cases vy
    exact .inl ⟨rfl, by simpa using fin⟩
  · cases e
    cases vx
    cases vy
    exact .inl ⟨rfl, by simpa using fin⟩
  · split at e
    · next p q' e1 e2 =>
      split at e
      · next c =>
        cases e
        exact .inr ⟨p, q', pyOf_ok ok vx e1, pyOf_ok ok vy e2, c.1, c.2, fin⟩
      · cases e
    · cases e
theorem s_ne [Tbl] {K : PySem.W.Frag} : OpS K (rNe' K) dNe := by
  intro w H h x y a b d Q ok vx vy e0 q
  obtain ⟨z, e, ez⟩ := Option.map_eq_some_iff.mp e0
  clear e0
  subst ez
  have fin : Q (.bl (!z)) H := q _ _ _ (Step.refl _ _) ok (.bl _)
  unfold eqO at e
  split at e
  · cases e
    cases vx
    cases vy
    exact .inl ⟨rfl, by simpa using fin⟩
  · cases e
    cases vx
    cases vy
    exact .inl ⟨rfl, by simpa using fin⟩
  · cases e
    cases vx
    cases vy
    exact .inl ⟨rfl, by simpa using fin⟩
  · split at e
    · next p q' e1 e2 =>
      split at e
      · next c =>
        cases e
        exact .inr ⟨p, q', pyOf_ok ok vx e1, pyOf_ok ok vy e2, c.1, c.2, fin⟩
      · cases e
    · cases e
/-- the order of ints and texts -/
def dCmp (fi : Int → Int → Bool) (fs : Str → Str → Bool) : D → D → Hap → Option D := fun a b _ => match a, b with
  | .int i, .int j => some (.bl (fi i j))
  | .str i, .str j => some (.bl (fs i j))
  | _, _ => none
def sLt (i j : Str) : Bool := decide (i.cps.toList < j.cps.toList)
def dLt := dCmp (fun i j => decide (i < j)) sLt
def dLe := dCmp (fun i j => decide (i ≤ j)) fun i j => !sLt j i
def dGt := dCmp (fun i j => decide (j < i)) fun i j => sLt j i
def dGe := dCmp (fun i j => decide (j ≤ i)) fun i j => !sLt i j
def rCmpS (fs : Str → Str → Bool) : R2 := fun x y H Q => ∃ i j, x = .str i ∧ y = .str j ∧ Q (.bl (fs i j)) H
theorem s_cmp [Tbl] {K : PySem.W.Frag} {fi : Int → Int → Bool} {fs : Str → Str → Bool} : OpS K (rOr (rI0 fun i j => .bl (fi i j)) (rCmpS fs)) (dCmp fi fs) := by
  intro w H h x y a b d Q ok vx vy e q
  unfold dCmp at e
  split at e
  · cases e
    cases vx
    cases vy
    exact .inl ⟨_, _, rfl, rfl, q _ _ _ (Step.refl _ _) ok (.bl _)⟩
  · cases e
    cases vx
    cases vy
    exact .inr ⟨_, _, rfl, rfl, q _ _ _ (Step.refl _ _) ok (.bl _)⟩
  · cases e
theorem o_lt {X : Cx} : OpR X (compareOp .Lt) (rOr (rI0 fun i j => .bl (decide (i < j))) (rCmpS sLt)) := OpR.or op_lt op_lt_str
theorem o_le {X : Cx} : OpR X (compareOp .LtE) (rOr (rI0 fun i j => .bl (decide (i ≤ j))) (rCmpS fun i j => !sLt j i)) := OpR.or op_le op_le_str
theorem o_gt {X : Cx} : OpR X (compareOp .Gt) (rOr (rI0 fun i j => .bl (decide (j < i))) (rCmpS fun i j => sLt j i)) := OpR.or op_gt op_gt_str
theorem o_ge {X : Cx} : OpR X (compareOp .GtE) (rOr (rI0 fun i j => .bl (decide (j ≤ i))) (rCmpS fun i j => !sLt i j)) := OpR.or op_ge op_ge_str
def isN : D → Bool
  | .non => true
  | _ => false
def dIs : D → D → Hap → Option D := fun a b _ => match b with
  | .non => some (.bl (isN a))
  | _ => none
def dIsNot : D → D → Hap → Option D := fun a b _ => match b with
  | .non => some (.bl (!isN a))
  | _ => none
theorem isN_ok {K : PySem.W.Frag} {w : Wd} {x : V} {a : D} (r : VR K w x a) : decide (x = .non) = isN a := by cases r <;> simp [isN]
theorem s_is [Tbl] {K : PySem.W.Frag} : OpS K (fun x y H Q => y = .non ∧ Q (.bl (decide (x = .non))) H) dIs := by
  intro w H h x y a b d Q ok vx vy e q
  unfold dIs at e
  split at e <;> cases e
  cases vy
  exact ⟨rfl, by rw [isN_ok vx]; exact q _ _ _ (Step.refl _ _) ok (.bl _)⟩
theorem s_isNot [Tbl] {K : PySem.W.Frag} : OpS K (fun x y H Q => y = .non ∧ Q (.bl (!decide (x = .non))) H) dIsNot := by
  intro w H h x y a b d Q ok vx vy e q
  unfold dIsNot at e
  split at e <;> cases e
  cases vy
  exact ⟨rfl, by rw [isN_ok vx]; exact q _ _ _ (Step.refl _ _) ok (.bl _)⟩
/-- in: a text in a text, flat data in a list or tuple -/
def D.fl : D → Option V
  | .non => some .non
  | .bl b => some (.bl b)
  | .int i => some (.int i)
  | .str x => some (.str x)
  | _ => none
def fls : List D → Option (List V)
  | [] => some []
  | d :: ds => match d.fl, fls ds with
    | some x, some xs => some (x :: xs)
    | _, _ => none
theorem fl_ok {K : PySem.W.Frag} {w : Wd} {x v : V} {a : D} (r : VR K w x a) (e : a.fl = some v) : x = v ∧ flatV x = true := by
  cases r <;> simp [D.fl] at e <;> subst e <;> exact ⟨rfl, rfl⟩
theorem fls_ok {K : PySem.W.Frag} {w : Wd} : ∀ {x v : List V} {a : List D}, VRs K w x a → fls a = some v → x = v ∧ x.all flatV = true
  | _, _, _, .nil, e => by simp [fls] at e; subst e; exact ⟨rfl, rfl⟩
  | _, _, _, .cons a b, e => by
    unfold fls at e
    split at e
    · next y ys e1 e2 =>
      cases e
      obtain ⟨q1, q2⟩ := fl_ok a e1
      obtain ⟨q3, q4⟩ := fls_ok b e2
      exact ⟨by rw [q1, q3], by rw [List.all_cons, q2, q4]; rfl⟩
    · cases e
def inO (a b : D) (h : Hap) : Option Bool := match a, b with
  | .str x, .str z => if x.cps.size = 1 then some (decide (x.cps[0]! ∈ z.cps.toList)) else some (!(Builtin.Str.occurrences z x 0 z.length 1).isEmpty)
  | a, b => match a.fl, (getQ b h).bind fls with
    | some x, some xs => some (inV x xs)
    | _, _ => none
def dIn : D → D → Hap → Option D := fun a b h => (inO a b h).map .bl
def dNotIn : D → D → Hap → Option D := fun a b h => (inO a b h).map fun b => .bl (!b)
def rInSign (n : Bool) : R2 := fun x y H Q => ∃ (c : Nat) (z : Str), x = .str ⟨#[c]⟩ ∧ y = .str z ∧ Q (.bl (if n then !decide (c ∈ z.cps.toList) else decide (c ∈ z.cps.toList))) H
def rInStr (n : Bool) : R2 := fun x y H Q => ∃ i j, x = .str i ∧ y = .str j ∧ Q (.bl (if n then !(!(Builtin.Str.occurrences j i 0 j.length 1).isEmpty) else !(Builtin.Str.occurrences j i 0 j.length 1).isEmpty)) H
def rIn' (K : PySem.W.Frag) (n : Bool) : R2 := rOr (rInSign n) (rOr (rInStr n) (rIn K n))
theorem o_in {X : Cx} : OpR X (compareOp .In) (rIn' X.K false) := OpR.or op_in_sign (OpR.or op_in_str op_in_seq)
theorem o_notIn {X : Cx} : OpR X (compareOp .NotIn) (rIn' X.K true) := OpR.or op_notIn_sign (OpR.or op_notIn_str op_notIn_seq)
theorem in_core [Tbl] {K : PySem.W.Frag} {n : Bool} {w : Wd} {H : Hp} {h : Hap} {x y : V} {a b : D} {z : Bool} {Q : VK} (ok : Ok K w H h) (vx : VR K w x a) (vy : VR K w y b) (e : inO a b h = some z) (q : Q (.bl (if n then !z else z)) H) : rIn' K n x y H Q := by
  unfold inO at e
  split at e
  · next i j =>
    cases vx
    cases vy
    split at e
    · next hs =>
      cases e
      obtain ⟨cs⟩ := i
      have hs' : cs.size = 1 := hs
      have ec : cs = #[cs[0]!] := by
        apply Array.ext
        · simp [hs']
        · intro k hk1 hk2
          have : k = 0 := by omega
          subst this
          simp [hk1]
      refine .inl ⟨cs[0]!, j, ?_, rfl, q⟩
      rw [← ec]
    · cases e
      exact .inr (.inl ⟨_, _, rfl, rfl, q⟩)
  · split at e
    · next x' xs e1 e2 =>
      cases e
      cases e3 : getQ b h with
      | none => rw [e3] at e2; cases e2
      | some ds =>
        rw [e3] at e2
        obtain ⟨p, vs, rfl, h1, r1⟩ := getQ_ok ok vy e3
        obtain ⟨q1, q2⟩ := fl_ok vx e1
        obtain ⟨q3, q4⟩ := fls_ok r1 e2
        exact .inr (.inr ⟨p, vs, rfl, h1, q2, q4, by rw [q1, q3]; exact q⟩)
    · cases e
theorem s_in [Tbl] {K : PySem.W.Frag} : OpS K (rIn' K false) dIn := by
  intro w H h x y a b d Q ok vx vy e0 q
  obtain ⟨z, e, ez⟩ := Option.map_eq_some_iff.mp e0
  clear e0
  subst ez
  exact in_core ok vx vy e (q _ _ _ (Step.refl _ _) ok (.bl _))
theorem s_notIn [Tbl] {K : PySem.W.Frag} : OpS K (rIn' K true) dNotIn := by
  intro w H h x y a b d Q ok vx vy e0 q
  obtain ⟨z, e, ez⟩ := Option.map_eq_some_iff.mp e0
  clear e0
  subst ez
  exact in_core ok vx vy e (q _ _ _ (Step.refl _ _) ok (.bl _))

/-! ### subscripts, slices -/
def dIx : D → D → Hap → Option D := fun a b h => match b with
  | .int i => match a with
    | .str z => if z.length ≤ sizeLine then (atI z.cps.toList i).map fun c => .str (ch c) else none
    | a => (getQ a h).bind fun xs => atI xs i
  | _ => none
theorem ix_seq' {X : Cx} : IxR X (rIx X.K) := ix_seq
theorem atI_vr {K : PySem.W.Frag} {w : Wd} {vs : List V} {ds : List D} {i : Int} {d : D} (r : VRs K w vs ds) (e : atI ds i = some d) : ∃ v, atI vs i = some v ∧ VR K w v d := by
  unfold atI at e ⊢
  rw [← r.length] at e
  cases q : ixN vs.length i with
  | none => rw [q] at e; cases e
  | some j =>
    rw [q] at e
    exact r.get' e
theorem s_ix [Tbl] {K : PySem.W.Frag} : OpS K (rIx K) dIx := by
  intro w H h x y a b d Q ok vx vy e q
  unfold dIx at e
  split at e
  · next i =>
    cases vy
    split at e
    · next z =>
      cases vx
      split at e
      · next hl =>
        obtain ⟨c, e1, rfl⟩ := Option.map_eq_some_iff.mp e
        exact .inr (.inr ⟨_, _, c, rfl, rfl, hl, e1, q _ _ _ (Step.refl _ _) ok (.str _)⟩)
      · cases e
    · cases e3 : getQ a h with
      | none => rw [e3] at e; cases e
      | some ds =>
        rw [e3] at e
        obtain ⟨p, vs, rfl, h1, r1⟩ := getQ_ok ok vx e3
        obtain ⟨v, e4, r2⟩ := atI_vr r1 e
        have fin := q v w H (Step.refl _ _) ok r2
        rcases h1 with h1 | h1
        · exact .inl ⟨p, vs, i, v, rfl, rfl, h1, e4, fin⟩
        · exact .inr (.inl ⟨p, vs, i, v, rfl, rfl, h1, e4, fin⟩)
  · cases e
theorem e_ix [Tbl] {X : Cx} {W : WX} {a b : Expr} {ma mb : ME} {pos : Pos} (ha : PE X a (tE X.K X.mg W ma)) (hb : PE X b (tE X.K X.mg W mb)) (hs : PlainIx b) : PE X (.Subscript a b pos) (tE X.K X.mg W (mBin dIx ma mb)) := PE.imp (pe_ix ix_seq ha hb hs) (t_bin s_ix)
abbrev MO := Env → Hap → Rs (Option Int)
def tO [Tbl] (K : PySem.W.Frag) (gm : Str → Option Value) (W : WX) (m : MO) : TO := fun σ H Q => ∃ w env h, Ok K w H h ∧ EnvR K w σ env ∧ Post K gm (fun _ v b => v = b) w H (m env h) Q fun c d H' => W c d σ H'
def mNoP : MO := fun _ h => .ok none h
def oI : D → Option (Option Int)
  | .int i => some (some i)
  | _ => none
def mPart (a : ME) : MO := fun env h => (a env h).bind fun x h1 => ofO (oI x) h1
theorem PO.imp {X : Cx} {e : Option Expr} {t t' : TO} (p : PO X e t) (i : ∀ σ H Q, t' σ H Q → t σ H Q) : PO X e t' := ⟨fun pins s σ H Q I h => p.run pins s σ H Q I (i _ _ _ h)⟩
section
variable {X : Cx} {W : WX}
theorem o_none [Tbl] : PO X none (tO X.K X.mg W mNoP) := PO.imp po_none fun σ H Q ⟨w, env, h, ok, er, p⟩ => p.ok ok rfl
theorem o_some [Tbl] {e : Expr} {m : ME} (he : PE X e (tE X.K X.mg W m)) : PO X (some e) (tO X.K X.mg W (mPart m)) := PO.imp (po_some he) fun σ H Q ⟨w, env, h, ok, er, p⟩ =>
  ⟨w, env, h, ok, er, Post.bind p fun x da w1 H1 h1 s1 ok1 v1 p1 => by
    obtain ⟨d, e, q⟩ := ofO_post p1
    cases da <;> simp [oI] at e
    subst e
    cases v1
    exact ⟨_, rfl, q _ w1 H1 (Step.refl _ _) ok1 rfl⟩⟩
end
def cutX {α : Type} (xs : List α) (lo hi : Option Int) : List α := (xs.drop (HT.sIx xs.length 0 lo)).take (HT.sIx xs.length xs.length hi - HT.sIx xs.length 0 lo)
def dSl (a : D) (lo hi : Option Int) (h : Hap) : Option D := match a with
  | .str z => if z.length ≤ sizeLine then some (.str (cutS z lo hi)) else none
  | .tup xs => some (.tup (cutX xs lo hi))
  | a => (getL a h).map fun xs => .lst (cutX xs lo hi)
def rSl' (K : PySem.W.Frag) : V → Option Int → Option Int → Hp → VK → Prop := fun x lo hi H Q => rSlS x lo hi H Q ∨ rSlL K x lo hi H Q ∨ rSlA K x lo hi H Q
theorem sl_any {X : Cx} : SlR X (rSl' X.K) := fun pins s σ H x v vl vu lo hi sl Q I r1 r2 r3 r4 z => by
  rcases z with z | z | z
  · exact sl_str pins s σ H x v vl vu lo hi sl Q I r1 r2 r3 r4 z
  · exact sl_list pins s σ H x v vl vu lo hi sl Q I r1 r2 r3 r4 z
  · exact sl_tupA pins s σ H x v vl vu lo hi sl Q I r1 r2 r3 r4 z
theorem cutX_V {K : PySem.W.Frag} {w : Wd} {vs : List V} {ds : List D} (r : VRs K w vs ds) (lo hi : Option Int) : VRs K w (cutV vs lo hi) (cutX ds lo hi) := by
  unfold cutV cutX
  rw [r.length]
  exact (r.drop _).take _
def mSl (a : ME) (lo hi : MO) : ME := fun env h => (a env h).bind fun x h1 => (lo env h1).bind fun l h2 => (hi env h2).bind fun u h3 => ofO (dSl x l u h3) h3
theorem e_sl [Tbl] {X : Cx} {W : WX} {e : Expr} {lo hi : Option Expr} {p2 pos : Pos} {ma : ME} {ml mh : MO} (ha : PE X e (tE X.K X.mg W ma)) (hl : PO X lo (tO X.K X.mg W ml)) (hh : PO X hi (tO X.K X.mg W mh)) : PE X (.Subscript e (.Slice lo hi none p2) pos) (tE X.K X.mg W (mSl ma ml mh)) :=
  PE.imp (pe_slice sl_any ha hl hh) fun σ H Q ⟨w, env, h, ok, er, p⟩ => ⟨w, env, h, ok, er, Post.bind p fun x a w1 H1 h1 s1 ok1 v1 p1 =>
    ⟨w1, env, h1, ok1, er.mono s1, Post.bind p1 fun l l' w2 H2 h2 s2 ok2 v2 p2 => by
      subst v2
      refine ⟨w2, env, h2, ok2, (er.mono s1).mono s2, Post.bind p2 fun u u' w3 H3 h3 s3 ok3 v3 p3 => ?_⟩
      subst v3
      obtain ⟨d, e, q⟩ := ofO_post p3
      have vx := (v1.mono s2).mono s3
      unfold dSl at e
      split at e
      · cases vx
        split at e
        · next hl => cases e; exact .inl ⟨_, rfl, hl, q _ _ _ (Step.refl _ _) ok3 (.str _)⟩
        · cases e
      · next xs =>
        cases e
        obtain ⟨p, vs, rfl, h1, r1⟩ := getT_ok ok3 vx rfl
        refine .inr (.inr ⟨p, vs, rfl, h1, fun z => ?_, fun z a ha => ?_⟩)
        · refine q _ _ _ (Step.refl _ _) ok3 ?_
          have e : cutX xs l u = xs := by
            unfold cutX
            rw [r1.length] at z
            rw [z.1, z.2]
            simp
          rw [e]
          exact vx
        · exact q _ _ _ (ok3.alloc ha).2 (ok3.alloc ha).1 (vr_tup ok3 ha (cutX_V r1 l u))
      · obtain ⟨xs, e1, e2⟩ := Option.map_eq_some_iff.mp e
        subst e2
        obtain ⟨p, vs, rfl, h1, r1⟩ := getL_ok ok3 vx e1
        exact .inr (.inl ⟨p, vs, rfl, h1, fun a ha => q _ _ _ (ok3.alloc ha).2 (ok3.alloc ha).1 (vr_lst ok3 ha (cutX_V r1 l u))⟩)⟩⟩
end
end Vi

set_option Elab.async false
set_option linter.all false
set_option autoImplicit false
set_option maxRecDepth 100000
set_option maxHeartbeats 2000000
namespace Vi
open PySem PySem.Spec PyProof.Rows L2
variable {gm : Str → Option Value}
open scoped Classical
noncomputable section

/-! ### calls of built-ins -/
def CallS [Tbl] (K : PySem.W.Frag) (r : List V → Hp → VK → Prop) (g : List D → Hap → Option D) : Prop := ∀ (w : Wd) (H : Hp) (h : Hap) (xs : List V) (ds : List D) (d : D) (Q : VK), Ok K w H h → VRs K w xs ds → g ds h = some d →
  (∀ v w' H', Step w H w' H' → Ok K w' H' h → VR K w' v d → Q v H') → r xs H Q
def mCB (g : List D → Hap → Option D) (a : MA) : ME := fun env h => (a env h).bind fun xs h1 => ofO (g xs h1) h1
theorem t_cb [Tbl] {K : PySem.W.Frag} {W : WX} {r : List V → Hp → VK → Prop} {g : List D → Hap → Option D} {a : MA} (s : CallS K r g) : ∀ σ H Q, tE K gm W (mCB g a) σ H Q → tCB r (tA K gm W a) σ H Q := fun σ H Q ⟨w, env, h, ok, er, p⟩ =>
  ⟨w, env, h, ok, er, Post.bind p fun x da w1 H1 h1 s1 ok1 v1 p1 => by
    obtain ⟨d, e, q⟩ := ofO_post p1
    exact s w1 H1 h1 x da d Q ok1 v1 e q⟩
section
variable {X : Cx} {W : WX} {x : Str} {p pos : Pos} {e : Expr} {es : List Expr} {m : MA} {id : String} {r : List V → Hp → VK → Prop} {g : List D → Hap → Option D}
theorem e_cb [Tbl] (hc : CallR X (.builtin id) r) (s : CallS X.K r g) (hg : Gl X x) (hm : X.mg x = none) (hv : bootBuiltins x = some (.builtin id)) (ha : PA X (e :: es) (tA X.K X.mg W m)) (hn : x ≠ "__name__" := by decide) (hdb : (x == ("__debug__" : Str)) = false := by decide)
    (he : starEach (e :: es) X.env = (false, eval e X.env) :: starEach es X.env := by rfl) (hpl : (backTo pos (starEach es X.env)).any (·.1) = false := by rfl) : PE X (.Call (.Name x p) (e :: es) [] pos) (tE X.K X.mg W (mCB g m)) := PE.imp (pe_callB hc hg hm hv ha hn hdb he hpl) (t_cb s)
theorem e_cty [Tbl] (hc : CallR X (.type id) r) (s : CallS X.K r g) (hg : Gl X x) (hm : X.mg x = none) (hv : bootBuiltins x = some (.type id)) (ha : PA X (e :: es) (tA X.K X.mg W m)) (hn : x ≠ "__name__" := by decide) (hdb : (x == ("__debug__" : Str)) = false := by decide)
    (he : starEach (e :: es) X.env = (false, eval e X.env) :: starEach es X.env := by rfl) (hpl : (backTo pos (starEach es X.env)).any (·.1) = false := by rfl) : PE X (.Call (.Name x p) (e :: es) [] pos) (tE X.K X.mg W (mCB g m)) := PE.imp (pe_callTy hc hg hm hv ha hn hdb he hpl) (t_cb s)
end
theorem vrs1 {K : PySem.W.Frag} {w : Wd} {xs : List V} {d : D} (r : VRs K w xs [d]) : ∃ x, xs = [x] ∧ VR K w x d := by
  cases r with
  | cons a b => cases b; exact ⟨_, rfl, a⟩
theorem vrs2 {K : PySem.W.Frag} {w : Wd} {xs : List V} {d e : D} (r : VRs K w xs [d, e]) : ∃ x y, xs = [x, y] ∧ VR K w x d ∧ VR K w y e := by
  cases r with
  | cons a b =>
    obtain ⟨y, rfl, q⟩ := vrs1 b
    exact ⟨_, y, rfl, a, q⟩
def dLen : List D → Hap → Option D := fun ds h => match ds with
  | [.str z] => if z.length ≤ sizeLine then some (.int z.length) else none
  | [d] => (getQ d h).map fun xs => .int xs.length
  | _ => none
theorem s_len [Tbl] {K : PySem.W.Frag} : CallS K (fun xs H Q => ∃ x n, xs = [x] ∧ LenV K x H n ∧ Q (.int n) H) dLen := by
  intro w H h xs ds d Q ok vr e q
  unfold dLen at e
  split at e
  · obtain ⟨x, rfl, r⟩ := vrs1 vr
    cases r
    split at e
    · next hl => cases e; exact ⟨_, _, rfl, ⟨hl, rfl⟩, q _ _ _ (Step.refl _ _) ok (.int _)⟩
    · cases e
  · obtain ⟨x, rfl, r⟩ := vrs1 vr
    obtain ⟨xs, e1, e2⟩ := Option.map_eq_some_iff.mp e
    subst e2
    obtain ⟨p, vs, rfl, h1, r1⟩ := getQ_ok ok r e1
    refine ⟨_, vs.length, rfl, ?_, by rw [r1.length]; exact q _ _ _ (Step.refl _ _) ok (.int _)⟩
    rcases h1 with h1 | h1
    · exact .inl ⟨vs, h1, rfl⟩
    · exact .inr ⟨vs, h1, rfl⟩
  · cases e
theorem s_intInt [Tbl] {K : PySem.W.Frag} {f : Int → Int} {g : List D → Hap → Option D} (hg : ∀ ds h d, g ds h = some d → ∃ i, ds = [.int i] ∧ d = .int (f i)) : CallS K (fun xs H Q => ∃ i, xs = [.int i] ∧ Q (.int (f i)) H) g := by
  intro w H h xs ds d Q ok vr e q
  obtain ⟨i, rfl, rfl⟩ := hg _ _ _ e
  obtain ⟨x, rfl, r⟩ := vrs1 vr
  cases r
  exact ⟨i, rfl, q _ _ _ (Step.refl _ _) ok (.int _)⟩
def dAbs : List D → Hap → Option D := fun ds _ => match ds with
  | [.int i] => some (.int (if i < 0 then -i else i))
  | _ => none
theorem s_abs [Tbl] {K : PySem.W.Frag} : CallS K (fun xs H Q => ∃ i, xs = [.int i] ∧ Q (.int (if i < 0 then -i else i)) H) dAbs := s_intInt fun ds h d e => by
  unfold dAbs at e
  split at e <;> cases e
  exact ⟨_, rfl, rfl⟩
/-- int(..) of an int, a bool -/
def dInt : List D → Hap → Option D := fun ds _ => match ds with
  | [.int i] => some (.int i)
  | [.bl b] => some (.int (if b then 1 else 0))
  | _ => none
theorem s_int [Tbl] {K : PySem.W.Frag} : CallS K (fun xs H Q => (∃ i, xs = [.int i] ∧ Q (.int i) H) ∨ ∃ k, xs = [.bl k] ∧ Q (.int (if k then 1 else 0)) H) dInt := by
  intro w H h xs ds d Q ok vr e q
  unfold dInt at e
  split at e <;> cases e
  · obtain ⟨x, rfl, r⟩ := vrs1 vr
    cases r
    exact .inl ⟨_, rfl, q _ _ _ (Step.refl _ _) ok (.int _)⟩
  · obtain ⟨x, rfl, r⟩ := vrs1 vr
    cases r
    exact .inr ⟨_, rfl, q _ _ _ (Step.refl _ _) ok (.int _)⟩
def blsOf : List D → Option (List Bool)
  | [] => some []
  | .bl b :: ds => (blsOf ds).map (b :: ·)
  | _ => none
theorem blsOf_ok {K : PySem.W.Frag} {w : Wd} : ∀ {v : List V} {ds : List D} {bs : List Bool}, VRs K w v ds → blsOf ds = some bs → v = bs.map V.bl
  | _, [], bs, .nil, e => by simp [blsOf] at e; subst e; rfl
  | _, .bl b :: ds, bs, .cons (.bl _) t, e => by
    simp [blsOf] at e
    obtain ⟨c, e1, rfl⟩ := e
    rw [blsOf_ok t e1]
    rfl
  | _, .non :: _, _, _, e => by simp [blsOf] at e
  | _, .int _ :: _, _, _, e => by simp [blsOf] at e
  | _, .str _ :: _, _, _, e => by simp [blsOf] at e
  | _, .lst _ :: _, _, _, e => by simp [blsOf] at e
  | _, .klst _ :: _, _, _, e => by simp [blsOf] at e
  | _, .tup _ :: _, _, _, e => by simp [blsOf] at e
  | _, .ref _ :: _, _, _, e => by simp [blsOf] at e
  | _, .ty _ :: _, _, _, e => by simp [blsOf] at e
def dAll : List D → Hap → Option D := fun ds h => match ds with
  | [d] => ((getL d h).bind blsOf).map fun bs => .bl (bs.all id)
  | _ => none
def dAny : List D → Hap → Option D := fun ds h => match ds with
  | [d] => ((getL d h).bind blsOf).map fun bs => .bl (bs.any id)
  | _ => none
theorem s_all [Tbl] {K : PySem.W.Frag} : CallS K (rAll K) dAll := by
  intro w H h xs ds d Q ok vr e q
  unfold dAll at e
  split at e
  · next d0 =>
    obtain ⟨x, rfl, r⟩ := vrs1 vr
    obtain ⟨bs, e1, e2⟩ := Option.map_eq_some_iff.mp e
    subst e2
    obtain ⟨ds, e2, e3⟩ := Option.bind_eq_some_iff.mp e1
    obtain ⟨p, vs, rfl, h1, r1⟩ := getL_ok ok r e2
    have q2 := blsOf_ok r1 e3
    subst q2
    exact ⟨p, bs, rfl, h1, q _ _ _ (Step.refl _ _) ok (.bl _)⟩
  · cases e
theorem s_any [Tbl] {K : PySem.W.Frag} : CallS K (rAny K) dAny := by
  intro w H h xs ds d Q ok vr e q
  unfold dAny at e
  split at e
  · next d0 =>
    obtain ⟨x, rfl, r⟩ := vrs1 vr
    obtain ⟨bs, e1, e2⟩ := Option.map_eq_some_iff.mp e
    subst e2
    obtain ⟨ds, e2, e3⟩ := Option.bind_eq_some_iff.mp e1
    obtain ⟨p, vs, rfl, h1, r1⟩ := getL_ok ok r e2
    have q2 := blsOf_ok r1 e3
    subst q2
    exact ⟨p, bs, rfl, h1, q _ _ _ (Step.refl _ _) ok (.bl _)⟩
  · cases e
/-- isinstance with a written built-in class -/
def tyD (d : D) (h : Hap) : Option String := match d with
  | .non => some "NoneType"
  | .bl _ => some "bool"
  | .int _ => some "int"
  | .str _ => some "str"
  | .lst _ => some "list"
  | .klst _ => some "list"
  | .tup _ => some "tuple"
  | .ref i => match h[i]? with
    | some (.lst _) => some "list"
    | some (.dct _) => some "dict"
    | _ => none
  | .ty _ => none
theorem tyX_ok [Tbl] {K : PySem.W.Frag} {w : Wd} {H : Hp} {h : Hap} {x : V} {d : D} {n : String} (ok : Ok K w H h) (r : VR K w x d) (e : tyD d h = some n) : TyX K H x (.type n) := by
  cases r <;> simp [tyD] at e
  case non => subst e; exact .base .non
  case bl b => subst e; exact .base (.bl b)
  case int b => subst e; exact .base (.int b)
  case str b => subst e; exact .base (.str b)
  case lst a vs ds e1 e2 => subst e; exact .base (.lst (ok.sub _ _ e1))
  case klst a vs ds e1 e2 =>
    subst e
    rcases sqL_mono ok.sub e1 with (z | ⟨o, z⟩) | ⟨o, its, n, z, z2, _⟩
    · exact .base (.lst z)
    · exact .base (.frz z)
    · exact .kList z z2
  case tup a vs ds e1 e2 =>
    subst e
    rcases sqT_mono ok.sub e1 with (z | ⟨o, z⟩) | ⟨o, its, n, z, z2, _⟩
    · exact .base (.tup z)
    · exact .fTuple z
    · exact .kTuple z z2
  case ref a i e1 =>
    split at e
    · next xs e2 =>
      cases e
      obtain ⟨_, o, e3, e4⟩ := ok.cel i a _ e1 e2
      cases o <;> simp [CRel] at e4
      exact .base (.lst e3)
    · next xs e2 =>
      cases e
      obtain ⟨_, o, e3, e4⟩ := ok.cel i a _ e1 e2
      cases o <;> simp [CRel] at e4
      exact .base (.dK e3)
    · cases e
def isiB (a b : String) : Bool := decide (a = b) || (decide (a = "bool") && decide (b = "int"))
def tyNs : List String := ["NoneType", "bool", "int", "str", "list", "tuple", "dict"]
def clNs : List String := ["bool", "int", "str", "list", "tuple", "dict"]
theorem isi_tab : ∀ a ∈ tyNs, ∀ b ∈ clNs, kitB a b = some (isiB a b) := by decide +kernel
def dIsi : List D → Hap → Option D := fun ds h => match ds with
  | [d, .ty n] => if n ∈ clNs then (tyD d h).map fun t => .bl (isiB t n) else none
  | _ => none
theorem tyD_in {d : D} {h : Hap} {n : String} (e : tyD d h = some n) : n ∈ tyNs := by
  unfold tyD at e
  split at e <;> (try split at e) <;> simp [tyNs] at e ⊢ <;> simp [← e]
theorem s_isi [Tbl] {K : PySem.W.Frag} : CallS K (rIsi K) dIsi := by
  intro w H h xs ds d Q ok vr e q
  unfold dIsi at e
  split at e
  · next d0 n =>
    obtain ⟨x, y, rfl, r1, r2⟩ := vrs2 vr
    cases r2
    split at e
    · next hn =>
      obtain ⟨t, e1, e2⟩ := Option.map_eq_some_iff.mp e
      subst e2
      exact ⟨x, .ty n, .type t, .type n, _, rfl, .ty n, tyX_ok ok r1 e1, kit_ty (isi_tab t (tyD_in e1) n hn), q _ _ _ (Step.refl _ _) ok (.bl _)⟩
    · cases e
  · cases e
/-- tuple(..), list(..) of a list or tuple -/
def dTupleOf : List D → Hap → Option D := fun ds h => match ds with
  | [d] => (getQ d h).map .tup
  | _ => none
theorem s_tupleOf [Tbl] {K : PySem.W.Frag} : CallS K (fun xs H Q => ∃ p ys, xs = [.ref p] ∧ ((SqL K H p ys ∧ ∀ l, H l = none → Q (.ref l) (upd H l (.tup ys))) ∨ (SqT K H p ys ∧ Q (.ref p) H))) dTupleOf := by
  intro w H h xs ds d Q ok vr e q
  unfold dTupleOf at e
  split at e
  · next d0 =>
    obtain ⟨x, rfl, r⟩ := vrs1 vr
    obtain ⟨ys, e1, e2⟩ := Option.map_eq_some_iff.mp e
    subst e2
    unfold getQ at e1
    split at e1
    · cases e1
      obtain ⟨p, vs, rfl, h1, r1⟩ := getT_ok ok r rfl
      exact ⟨p, vs, rfl, .inr ⟨h1, q _ _ _ (Step.refl _ _) ok r⟩⟩
    · obtain ⟨p, vs, rfl, h1, r1⟩ := getL_ok ok r e1
      exact ⟨p, vs, rfl, .inl ⟨h1, fun l hl => q _ _ _ (ok.alloc hl).2 (ok.alloc hl).1 (vr_tup ok hl r1)⟩⟩
  · cases e
def dListOf : List D → Hap → Option D := fun ds h => match ds with
  | [d] => (getQ d h).map .lst
  | _ => none
theorem s_listOf [Tbl] {K : PySem.W.Frag} : CallS K (fun xs H Q => ∃ p ys, xs = [.ref p] ∧ (SqL K H p ys ∨ SqT K H p ys) ∧ ∀ l, H l = none → Q (.ref l) (upd H l (.lst ys))) dListOf := by
  intro w H h xs ds d Q ok vr e q
  unfold dListOf at e
  split at e
  · next d0 =>
    obtain ⟨x, rfl, r⟩ := vrs1 vr
    obtain ⟨ys, e1, e2⟩ := Option.map_eq_some_iff.mp e
    subst e2
    obtain ⟨p, vs, rfl, h1, r1⟩ := getQ_ok ok r e1
    exact ⟨p, vs, rfl, h1, fun l hl => q _ _ _ (ok.alloc hl).2 (ok.alloc hl).1 (vr_lst ok hl r1)⟩
  · cases e

/-! ### methods of built-in types -/
def isT (T : String) (d : D) (h : Hap) : Bool := match d with
  | .str _ => T == "str"
  | .int _ => T == "int"
  | .lst _ => T == "list"
  | .klst _ => T == "list"
  | .ref i => match h[i]? with
    | some (.lst _) => T == "list"
    | some (.dct _) => T == "dict"
    | _ => false
  | _ => false
theorem isT_ok [Tbl] {K : PySem.W.Frag} {w : Wd} {H : Hp} {h : Hap} {T : String} {x : V} {d : D} (ok : Ok K w H h) (r : VR K w x d) (e : isT T d h = true) : tyV K T x H := by
  cases r <;> simp [isT] at e
  case int i => exact e
  case str i => exact e
  case lst a vs ds e1 e2 => exact .inl ⟨e, vs, .inl (.inl (ok.sub _ _ e1))⟩
  case klst a vs ds e1 e2 => exact .inl ⟨e, vs, sqL_mono ok.sub e1⟩
  case ref a i e1 =>
    split at e
    · next xs e2 =>
      obtain ⟨_, o, e3, e4⟩ := ok.cel i a _ e1 e2
      cases o <;> simp [CRel] at e4
      exact .inl ⟨by simpa using e, _, .inl (.inl e3)⟩
    · next xs e2 =>
      obtain ⟨_, o, e3, e4⟩ := ok.cel i a _ e1 e2
      cases o <;> simp [CRel] at e4
      exact .inr (.inr (.inl ⟨by simpa using e, .inl ⟨_, e3⟩⟩))
    · cases e
/-- what a method does: it may change the cells -/
def MetS [Tbl] (K : PySem.W.Frag) (gm : Str → Option Value) (r : V → List V → Hp → VK → Prop) (g : D → List D → Hap → Rs D) : Prop := ∀ (w : Wd) (H : Hp) (h : Hap) (x : V) (xs : List V) (a : D) (ds : List D) (Q : VK) (E : XK), Ok K w H h → VR K w x a → VRs K w xs ds →
  Post K gm (VR K) w H (g a ds h) Q E → r x xs H Q
def mMet (T : String) (g : D → List D → Hap → Rs D) (o : ME) (a : MA) : ME := fun env h => (o env h).bind fun x h1 => if isT T x h1 = true then (a env h1).bind fun xs h2 => g x xs h2 else .stuck
theorem t_met [Tbl] {K : PySem.W.Frag} {W : WX} {T : String} {r : V → List V → Hp → VK → Prop} {g : D → List D → Hap → Rs D} {o : ME} {a : MA} (s : MetS K gm r g) : ∀ σ H Q, tE K gm W (mMet T g o a) σ H Q → tBM K T r (tE K gm W o) (tA K gm W a) σ H Q := fun σ H Q ⟨w, env, h, ok, er, p⟩ =>
  ⟨w, env, h, ok, er, Post.bind p fun x da w1 H1 h1 s1 ok1 v1 p1 => by
    by_cases c : isT T da h1 = true
    · rw [if_pos c] at p1
      exact ⟨isT_ok ok1 v1 c, w1, env, h1, ok1, er.mono s1, Post.bind p1 fun xs ds w2 H2 h2 s2 ok2 v2 p2 => s w2 H2 h2 x xs da ds Q _ ok2 (v1.mono s2) v2 p2⟩
    · rw [if_neg c] at p1
      exact p1.elim⟩
theorem t_met0 [Tbl] {K : PySem.W.Frag} {W : WX} {T : String} {r : V → List V → Hp → VK → Prop} {g : D → List D → Hap → Rs D} {o : ME} (s : MetS K gm r g) : ∀ σ H Q, tE K gm W (mMet T g o mNil) σ H Q → tBM0 K T r (tE K gm W o) σ H Q := fun σ H Q ⟨w, env, h, ok, er, p⟩ =>
  ⟨w, env, h, ok, er, Post.bind p fun x da w1 H1 h1 s1 ok1 v1 p1 => by
    by_cases c : isT T da h1 = true
    · rw [if_pos c] at p1
      exact ⟨isT_ok ok1 v1 c, s w1 H1 h1 x [] da [] Q _ ok1 v1 .nil p1⟩
    · rw [if_neg c] at p1
      exact p1.elim⟩
section
variable {X : Cx} {W : WX} {T id : String} {name : Str} {apos cpos : Pos} {o e : Expr} {es : List Expr} {r : V → List V → Hp → VK → Prop} {g : D → List D → Hap → Rs D} {mo : ME} {ma : MA}
theorem e_met [Tbl] (pa : PlainAttrs T) (slot : Slot T name id) (hty : typeOf (.builtin id) = pure (.type "method_descriptor")) (hm : MtR X id r) (s : MetS X.K X.mg r g) (ho : PE X o (tE X.K X.mg W mo)) (ha : PA X (e :: es) (tA X.K X.mg W ma))
    (hbase : attributeBase o name X.env (eval o X.env) = eval o X.env := by rfl)
    (hfew : ((backTo cpos (starEach (e :: es) X.env)).all (fun x => !x.1) && (backToKw cpos (keywordEach [] X.env)).all (fun x => x.1.isSome)
      && decide ((e :: es).length + ([] : List Keyword).length + (if ([] : List Keyword).isEmpty then 0 else 1) < 30)) = true := by rfl)
    (hline : (apos.endLine == cpos.line) = true := by rfl) (hs : starEach (e :: es) X.env = (false, eval e X.env) :: starEach es X.env := by rfl) (hplain : (backTo cpos (starEach es X.env)).any (·.1) = false := by rfl) :
    PE X (.Call (.Attribute o name apos) (e :: es) [] cpos) (tE X.K X.mg W (mMet T g mo ma)) := PE.imp (pe_bm pa slot hty hm ho ha hbase hfew hline hs hplain) (t_met s)
theorem e_met0 [Tbl] (pa : PlainAttrs T) (slot : Slot T name id) (hty : typeOf (.builtin id) = pure (.type "method_descriptor")) (hm : MtR X id r) (s : MetS X.K X.mg r g) (ho : PE X o (tE X.K X.mg W mo))
    (hbase : attributeBase o name X.env (eval o X.env) = eval o X.env := by rfl) (hline : (apos.endLine == cpos.line) = true := by rfl) : PE X (.Call (.Attribute o name apos) [] [] cpos) (tE X.K X.mg W (mMet T g mo mNil)) := PE.imp (pe_bm0 pa slot hty hm ho hbase hline) (t_met0 s)
end
/-- methods that leave the cells -/
def gP (f : D → List D → Hap → Option D) : D → List D → Hap → Rs D := fun a ds h => ofO (f a ds h) h
def PMetS [Tbl] (K : PySem.W.Frag) (r : V → List V → Hp → VK → Prop) (f : D → List D → Hap → Option D) : Prop := ∀ (w : Wd) (H : Hp) (h : Hap) (x : V) (xs : List V) (a : D) (ds : List D) (d : D) (Q : VK), Ok K w H h → VR K w x a → VRs K w xs ds → f a ds h = some d →
  (∀ v w' H', Step w H w' H' → Ok K w' H' h → VR K w' v d → Q v H') → r x xs H Q
theorem PMetS.met [Tbl] {K : PySem.W.Frag} {r : V → List V → Hp → VK → Prop} {f : D → List D → Hap → Option D} (s : PMetS K r f) : MetS K gm r (gP f) := fun w H h x xs a ds Q E ok r1 r2 p => by
  obtain ⟨d, e, q⟩ := ofO_post p
  exact s w H h x xs a ds d Q ok r1 r2 e q
/-- text methods with a text -/
def fSS (f : Str → Str → D) : D → List D → Hap → Option D := fun a ds _ => match a, ds with
  | .str a, [.str b] => some (f a b)
  | _, _ => none
theorem s_SS [Tbl] {K : PySem.W.Frag} {g : Str → Str → V} {f : Str → Str → D} (hf : ∀ w a b, VR K w (g a b) (f a b)) : PMetS K (fun x xs H Q => ∃ a b, x = .str a ∧ xs = [.str b] ∧ Q (g a b) H) (fSS f) := by
  intro w H h x xs a ds d Q ok r1 r2 e q
  unfold fSS at e
  split at e <;> cases e
  obtain ⟨y, rfl, r3⟩ := vrs1 r2
  cases r1
  cases r3
  exact ⟨_, _, rfl, rfl, q _ _ _ (Step.refl _ _) ok (hf _ _ _)⟩
def dStarts := fSS fun a b => .bl (Txt.startswith a b)
def dEnds := fSS fun a b => .bl (Txt.endswith a b)
def dFind := fSS fun a b => .int (Txt.find a b)
def dCount := fSS fun a b => .int (Txt.count a b)
theorem s_starts [Tbl] {K : PySem.W.Frag} : PMetS K (fun x xs H Q => ∃ a b, x = .str a ∧ xs = [.str b] ∧ Q (.bl (Txt.startswith a b)) H) dStarts := s_SS fun _ _ _ => .bl _
theorem s_ends [Tbl] {K : PySem.W.Frag} : PMetS K (fun x xs H Q => ∃ a b, x = .str a ∧ xs = [.str b] ∧ Q (.bl (Txt.endswith a b)) H) dEnds := s_SS fun _ _ _ => .bl _
theorem s_find [Tbl] {K : PySem.W.Frag} : PMetS K (fun x xs H Q => ∃ a b, x = .str a ∧ xs = [.str b] ∧ Q (.int (Txt.find a b)) H) dFind := s_SS fun _ _ _ => .int _
theorem s_count [Tbl] {K : PySem.W.Frag} : PMetS K (fun x xs H Q => ∃ a b, x = .str a ∧ xs = [.str b] ∧ Q (.int (Txt.count a b)) H) dCount := s_SS fun _ _ _ => .int _
def dFind3 : D → List D → Hap → Option D := fun a ds _ => match a, ds with
  | .str a, [.str b, .int i] => some (.int (Txt.find3 a b i))
  | _, _ => none
theorem s_find3 [Tbl] {K : PySem.W.Frag} : PMetS K (fun x xs H Q => ∃ (a b : Str) (i : Int), x = .str a ∧ xs = [.str b, .int i] ∧ Q (.int (Txt.find3 a b i)) H) dFind3 := by
  intro w H h x xs a ds d Q ok r1 r2 e q
  unfold dFind3 at e
  split at e <;> cases e
  obtain ⟨y, z, rfl, r3, r4⟩ := vrs2 r2
  cases r1
  cases r3
  cases r4
  exact ⟨_, _, _, rfl, rfl, q _ _ _ (Step.refl _ _) ok (.int _)⟩
def dSplit : D → List D → Hap → Option D := fun a ds _ => match a, ds with
  | .str a, [.str b] => if (b.length == 0) = false ∧ a.length + 2 ≤ sizeLine then some (.lst ((Txt.split a b).map .str)) else none
  | _, _ => none
theorem s_split [Tbl] {K : PySem.W.Frag} : PMetS K (fun x xs H Q => ∃ a b, x = .str a ∧ xs = [.str b] ∧ (b.length == 0) = false ∧ a.length + 2 ≤ sizeLine ∧ rNewStrs (Txt.split a b) H Q) dSplit := by
  intro w H h x xs a ds d Q ok r1 r2 e q
  unfold dSplit at e
  split at e
  · split at e
    · next c =>
      cases e
      obtain ⟨y, rfl, r3⟩ := vrs1 r2
      cases r1
      cases r3
      exact ⟨_, _, rfl, rfl, c.1, c.2, fun p hp => q _ _ _ (ok.alloc hp).2 (ok.alloc hp).1 (vr_lst ok hp VRs.of_strs)⟩
    · cases e
  · cases e
def strsOf : List D → Option (List Str)
  | [] => some []
  | .str b :: ds => (strsOf ds).map (b :: ·)
  | _ => none
theorem strsOf_is : ∀ {ds : List D} {bs : List Str}, strsOf ds = some bs → ds = bs.map D.str
  | [], bs, e => by simp [strsOf] at e; subst e; rfl
  | .str b :: ds, bs, e => by
    simp [strsOf] at e
    obtain ⟨c, e1, rfl⟩ := e
    rw [strsOf_is e1]
    rfl
  | .non :: _, _, e => by simp [strsOf] at e
  | .int _ :: _, _, e => by simp [strsOf] at e
  | .bl _ :: _, _, e => by simp [strsOf] at e
  | .lst _ :: _, _, e => by simp [strsOf] at e
  | .klst _ :: _, _, e => by simp [strsOf] at e
  | .tup _ :: _, _, e => by simp [strsOf] at e
  | .ref _ :: _, _, e => by simp [strsOf] at e
  | .ty _ :: _, _, e => by simp [strsOf] at e
def dJoin : D → List D → Hap → Option D := fun a ds h => match a, ds with
  | .str a, [d] => ((getQ d h).bind strsOf).bind fun ys => if (ys.map (·.length)).sum + ys.length * a.length ≤ 16777216 then some (.str (Txt.join a ys)) else none
  | _, _ => none
theorem s_join [Tbl] {K : PySem.W.Frag} : PMetS K (fun x xs H Q => ∃ a p, ∃ ys : List Str, x = .str a ∧ xs = [.ref p] ∧ (SqL K H p (ys.map V.str) ∨ SqT K H p (ys.map V.str)) ∧
    (ys.map (·.length)).sum + ys.length * a.length ≤ 16777216 ∧ Q (.str (Txt.join a ys)) H) dJoin := by
  intro w H h x xs a ds d Q ok r1 r2 e q
  unfold dJoin at e
  split at e
  · obtain ⟨y, rfl, r3⟩ := vrs1 r2
    obtain ⟨ys, e1, e2⟩ := Option.bind_eq_some_iff.mp e
    obtain ⟨dd, e3, e4⟩ := Option.bind_eq_some_iff.mp e1
    split at e2
    · next c =>
      cases e2
      have q1 := strsOf_is e4
      subst q1
      obtain ⟨p, vs, rfl, h1, r5⟩ := getQ_ok ok r3 e3
      have q2 := r5.strs
      subst q2
      cases r1
      exact ⟨_, p, ys, rfl, rfl, h1, c, q _ _ _ (Step.refl _ _) ok (.str _)⟩
    · cases e2
  · cases e
/-- xs.append(y), xs a cell -/
def gAppend : D → List D → Hap → Rs D := fun a ds h => match a, ds with
  | .ref i, [y] => match h[i]? with
    | some (.lst xs) => if xs.length < sizeLine then .ok .non (h.set i (.lst (xs ++ [y]))) else .stuck
    | _ => .stuck
  | _, _ => .stuck
theorem s_append [Tbl] {K : PySem.W.Frag} : MetS K gm rAppend gAppend := by
  intro w H h x xs a ds Q E ok r1 r2 p
  unfold gAppend at p
  split at p
  · next i y =>
    split at p
    · next zs e1 =>
      split at p
      · next hl =>
        obtain ⟨v, rfl, r3⟩ := vrs1 r2
        cases r1
        next a e2 =>
        obtain ⟨_, o, e3, e4⟩ := ok.cel i a _ e2 e1
        cases o <;> simp [CRel] at e4
        next vs =>
        have q := ok.write (hn := by rw [e1]; exact fun _ z => nomatch z) (o := .lst (vs ++ [v])) (c := .lst (zs ++ [y])) e2 (VRs.append e4 (.cons r3 .nil))
        exact ⟨a, vs, v, rfl, rfl, e3, by rw [e4.length]; exact hl, p _ _ _ q.2 q.1 .non⟩
      · exact p.elim
    · exact p.elim
  · exact p.elim
end
end Vi

set_option Elab.async false
set_option linter.all false
set_option autoImplicit false
set_option maxRecDepth 100000
set_option maxHeartbeats 2000000
namespace Vi
open PySem PySem.Spec PyProof.Rows L2
variable {gm : Str → Option Value}
open scoped Classical
noncomputable section

/-! ### own defs -/
/-- a def's promise: what m does on data -/
def spM [Tbl] (K : PySem.W.Frag) (gm : Str → Option Value) (n : Nat) (m : MF) : Sp := fun vs H Q E => vs.length = n ∧ ∃ w ds h, Ok K w H h ∧ VRs K w vs ds ∧ Post K gm (VR K) w H (m ds h) Q E
def mCall (m : MF) (a : MA) : ME := fun env h => (a env h).bind m
theorem t_call [Tbl] {K : PySem.W.Frag} {W : WX} {m : MF} {n : Nat} {a : MA} {te : TA} (ht : ∀ σ H Q, tA K gm W a σ H Q → te σ H Q) (hn : ∀ env h ds h', a env h = .ok ds h' → ds.length = n) : ∀ σ H Q, tE K gm W (mCall m a) σ H Q → tCallS (spM K gm n m) (WE W) te σ H Q := fun σ H Q ⟨w, env, h, ok, er, p⟩ => by
  refine ht _ _ _ ⟨w, env, h, ok, er, ?_⟩
  have hn' := hn env h
  unfold mCall at p
  revert p hn'
  cases a env h with
  | ok ds h1 => exact fun p hn' v w' H' s ok' vr => ⟨by rw [vr.length]; exact hn' ds h1 rfl, w', ds, h1, ok', vr, Post.step s p⟩
  | err c fs h1 => exact fun p _ => p
  | stuck => exact fun p _ => p
theorem mCons_len {m : ME} {r : MA} {n : Nat} (hr : ∀ env h ds h', r env h = .ok ds h' → ds.length = n) : ∀ env h ds h', mCons m r env h = .ok ds h' → ds.length = n + 1 := by
  intro env h ds h' e
  unfold mCons at e
  cases q : m env h with
  | ok x h1 =>
    rw [q] at e
    have e : (r env h1).bind (fun xs h2 => Rs.ok (x :: xs) h2) = Rs.ok ds h' := e
    cases q2 : r env h1 with
    | ok xs h2 =>
      rw [q2] at e
      cases e
      rw [List.length_cons, hr _ _ _ _ q2]
    | err c fs h2 => rw [q2] at e; cases e
    | stuck => rw [q2] at e; cases e
  | err c fs h1 => rw [q] at e; cases e
  | stuck => rw [q] at e; cases e
theorem mNil_len : ∀ env h ds h', mNil env h = .ok ds h' → ds.length = 0 := by
  intro env h ds h' e
  cases e
  rfl
section
variable {X : Cx} {W : WX} {k n : Nat} {f C : Addr} {fd : FuncData} {ps : List Str} {x : Str} {p pos : Pos} {e : Expr} {es : List Expr} {m : MF} {ma : MA}
theorem e_call [Tbl] (F : FnOk X.prog X.w X.K X.mg X.base (L2N.CX X.prog X.w) k f fd ps (spM X.K X.mg n m)) (hr : Room k X.A) (hm : X.mg x = some (.ref f)) (hk : PySem.W.keepIn X.K (.ref f) = true) (hb : Binds X.K fd ps []) (tk : L2N.Takes X W)
    (ha : PA X (e :: es) (tA X.K X.mg W ma)) (hn : ∀ env h ds h', ma env h = .ok ds h' → ds.length = n) (hg : Gl X x) (hdb : (x == ("__debug__" : Str)) = false := by decide) (he : starEach (e :: es) X.env = (false, eval e X.env) :: starEach es X.env := by rfl) (hpl : (backTo pos (starEach es X.env)).any (·.1) = false := by rfl) :
    PE X (.Call (.Name x p) (e :: es) [] pos) (tE X.K X.mg W (mCall m ma)) :=
  PE.imp (pe_callS F hr hg hm hk hb (fun σ => L2N.passAt tk σ) ha hdb he hpl) (t_call (fun _ _ _ h => h) hn)
end

/-! ### statements -/
def mSeq (a b : MS) : MS := fun env h => match a env h with
  | .nx e h1 => b e h1
  | r => r
def mNext : MS := fun env h => .nx env h
def mBrk : MS := fun env h => .bk env h
def mCnt : MS := fun env h => .ct env h
def mExp (a : ME) : MS := fun env h => RsS (a env h) env fun _ h1 => .nx env h1
def mRet (a : ME) : MS := fun env h => RsS (a env h) env fun d h1 => .rt d h1
def mRetN : MS := fun _ h => .rt .non h
def mIfS (c : MT) (a b : MS) : MS := fun env h => RsS (c env h) env fun t h1 => if t = true then a env h1 else b env h1
section
variable {X : Cx} {W : WX} {st : Stmt} {sts rest : List Stmt} {a b : MS} {e : Expr} {pos : Pos}
theorem ss_cons [Tbl] (h1 : PS X st (tS X.K X.mg W a)) (h2 : PSs X rest (tS X.K X.mg W b)) : PSs X (st :: rest) (tS X.K X.mg W (mSeq a b)) := PSs.imp (pss_cons h1 h2) fun D σ H ⟨w, env, h, ok, er, p⟩ => by
  refine ⟨w, env, h, ok, er, ?_⟩
  unfold mSeq at p
  revert p
  cases a env h with
  | nx e1 h1 => exact fun p σ' w' H' s ok' er' => ⟨w', e1, h1, ok', er', PostS.step s p⟩
  | bk e1 h1 => exact fun p => p
  | ct e1 h1 => exact fun p => p
  | rt e1 h1 => exact fun p => p
  | er c fs e1 h1 => exact fun p => p
  | stuck => exact fun p => p
theorem ss_one [Tbl] (h1 : PS X st (tS X.K X.mg W a)) : PSs X [st] (tS X.K X.mg W a) := PSs.imp (pss_one h1) fun _ _ _ h => h
theorem ss_nil [Tbl] : PSs X [] (tS X.K X.mg W mNext) := PSs.imp pss_nil fun D σ H ⟨w, env, h, ok, er, p⟩ => p σ w H (Step.refl _ _) ok er
theorem s_pass [Tbl] : PS X (.Pass pos) (tS X.K X.mg W mNext) := PS.imp ps_pass fun D σ H ⟨w, env, h, ok, er, p⟩ => p σ w H (Step.refl _ _) ok er
theorem s_brk [Tbl] : PS X (.Break pos) (tS X.K X.mg W mBrk) := PS.imp ps_break fun D σ H ⟨w, env, h, ok, er, p⟩ => p σ w H (Step.refl _ _) ok er
theorem s_cnt [Tbl] : PS X (.Continue pos) (tS X.K X.mg W mCnt) := PS.imp ps_continue fun D σ H ⟨w, env, h, ok, er, p⟩ => p σ w H (Step.refl _ _) ok er
theorem s_doc [Tbl] {x : Str} {j : Nat} {pos' : Pos} : PS X (.Expr (.Constant (.str x) j pos') pos) (tS X.K X.mg W mNext) := PS.imp ps_doc fun D σ H ⟨w, env, h, ok, er, p⟩ => p σ w H (Step.refl _ _) ok er
theorem s_exp [Tbl] {m : ME} (he : PE X e (tE X.K X.mg W m)) (hs : swapsWith e none pos.line X.env = pure false := by rfl) : PS X (.Expr e pos) (tS X.K X.mg W (mExp m)) := PS.imp (ps_expr he hs) fun D σ H ⟨w, env, h, ok, er, p⟩ =>
  ⟨w, env, h, ok, er, PostS.bind er p fun v a w' H' h' s ok' vr p' => p' σ w' H' (Step.refl _ _) ok' (er.mono s)⟩
theorem s_ret [Tbl] {m : ME} (he : PE X e (tE X.K X.mg W m)) : PS X (.Return (some e) pos) (tS X.K X.mg W (mRet m)) := PS.imp (ps_ret he) fun D σ H ⟨w, env, h, ok, er, p⟩ =>
  ⟨w, env, h, ok, er, PostS.bind er p fun v a w' H' h' s ok' vr p' => p' v w' H' (Step.refl _ _) ok' vr⟩
theorem s_retN [Tbl] : PS X (.Return none pos) (tS X.K X.mg W mRetN) := PS.imp ps_retN fun D σ H ⟨w, env, h, ok, er, p⟩ => p _ w H (Step.refl _ _) ok .non
theorem s_if [Tbl] {c : Expr} {ss us : List Stmt} {mc : MT} (hc : PT X c (tT X.K X.mg W mc)) (ha : PSs X ss (tS X.K X.mg W a)) (hb : PSs X us (tS X.K X.mg W b)) : PS X (.If c ss us pos) (tS X.K X.mg W (mIfS mc a b)) := PS.imp (ps_if hc ha hb) fun D σ H ⟨w, env, h, ok, er, p⟩ =>
  ⟨w, env, h, ok, er, PostS.bind er p fun v t w' H' h' s ok' vr p' => by
    cases vr
    cases v with
    | true => exact ⟨w', env, h', ok', er.mono s, p'⟩
    | false => exact ⟨w', env, h', ok', er.mono s, p'⟩⟩

/-! ### targets -/
abbrev MG := D → Env → Hap → Option Env
/-- vs: the slots it stores to -/
def TgS [Tbl] (K : PySem.W.Frag) (g : TG) (b : MG) (vs : List Nat) : Prop := ∀ (w : Wd) (H : Hp) (h : Hap) (x : V) (d : D) (σ : L2.St) (env env' : Env) (Q : L2.St → Hp → Prop), Ok K w H h → VR K w x d → EnvR K w σ env → b d env h = some env' →
  (∀ σ', EnvR K w σ' env' → (∀ us : List Nat, (∀ i ∈ vs, i ∈ us) → wipe σ' us = wipe σ us) → Q σ' H) → g x σ H Q
theorem EnvR.set {K : PySem.W.Frag} {w : Wd} {σ : L2.St} {env : Env} {x : V} {d : D} (er : EnvR K w σ env) (vr : VR K w x d) (i : Nat) : EnvR K w (σ.set i (some x)) (env.set i (some d)) := ⟨by rw [List.length_set, List.length_set]; exact er.len, fun j d' e => by
  by_cases q : i = j
  · subst q
    by_cases hl : i < env.length
    · rw [List.getElem?_set_self hl] at e
      cases e
      exact ⟨x, List.getElem?_set_self (by rw [er.len]; exact hl), vr⟩
    · rw [List.getElem?_eq_none (by rw [List.length_set]; omega)] at e
      cases e
  · rw [List.getElem?_set_ne q] at e ⊢
    exact er.get j d' e⟩
theorem wipe_set {σ : L2.St} {i : Nat} {x : Option V} : ∀ {us : List Nat}, i ∈ us → wipe (σ.set i x) us = wipe σ us
  | [], m => absurd m (by simp)
  | u :: us, m => by
    unfold wipe
    by_cases q : i ∈ us
    · rw [wipe_set q]
    · have e : i = u := by
        simp at m
        rcases m with z | z
        · exact z
        · exact absurd z q
      subst e
      clear m
      have : ∀ vs : List Nat, i ∉ vs → wipe (σ.set i x) vs = (wipe σ vs).set i x := by
        intro vs
        induction vs with
        | nil => intro _; rfl
        | cons v vs ih =>
          intro n
          simp at n
          unfold wipe
          rw [ih n.2, List.set_comm _ _ n.1]
      rw [this us q]
      simp
def gNm (i : Nat) : MG := fun d env _ => some (env.set i (some d))
theorem g_nm [Tbl] {K : PySem.W.Frag} (i : Nat) : TgS K (gName i) (gNm i) [i] := fun w H h x d σ env env' Q ok vr er e q => by
  cases e
  exact q _ (er.set vr i) fun us m => wipe_set (m i (by simp))
abbrev MGs := List D → Env → Hap → Option Env
def TgsS [Tbl] (K : PySem.W.Frag) (g : TGs) (b : MGs) (vs : List Nat) : Prop := ∀ (w : Wd) (H : Hp) (h : Hap) (x : List V) (d : List D) (σ : L2.St) (env env' : Env) (Q : L2.St → Hp → Prop), Ok K w H h → VRs K w x d → EnvR K w σ env → b d env h = some env' →
  (∀ σ', EnvR K w σ' env' → (∀ us : List Nat, (∀ i ∈ vs, i ∈ us) → wipe σ' us = wipe σ us) → Q σ' H) → g x σ H Q
def gsNil : MGs := fun ds env _ => match ds with
  | [] => some env
  | _ => none
def gsCons (a : MG) (b : MGs) : MGs := fun ds env h => match ds with
  | d :: ds => (a d env h).bind fun e1 => b ds e1 h
  | _ => none
theorem gs_nil [Tbl] {K : PySem.W.Frag} : TgsS K gNil gsNil [] := fun w H h x d σ env env' Q ok vr er e q => by
  unfold gsNil at e
  split at e <;> cases e
  cases vr
  exact ⟨rfl, q σ er fun _ _ => rfl⟩
theorem gs_cons [Tbl] {K : PySem.W.Frag} {t : TG} {u : TGs} {a : MG} {b : MGs} {vs us : List Nat} (h1 : TgS K t a vs) (h2 : TgsS K u b us) : TgsS K (gCons t u) (gsCons a b) (vs ++ us) := fun w H h x d σ env env' Q ok vr er e q => by
  unfold gsCons at e
  split at e
  · next d ds =>
    obtain ⟨e1, q1, q2⟩ := Option.bind_eq_some_iff.mp e
    cases vr with
    | cons r1 r2 =>
      exact ⟨_, _, rfl, h1 w H h _ d σ env e1 _ ok r1 er q1 fun σ1 er1 w1 => h2 w H h _ ds σ1 e1 env' _ ok r2 er1 q2 fun σ2 er2 w2 => q σ2 er2 fun zs m => by rw [w2 zs fun i hi => m i (List.mem_append_right _ hi), w1 zs fun i hi => m i (List.mem_append_left _ hi)]⟩
  · cases e
def gTp (n : Nat) (b : MGs) : MG := fun d env h => match d with
  | .tup ds => if ds.length = n then b ds env h else none
  | _ => none
theorem g_tp [Tbl] {K : PySem.W.Frag} {n : Nat} {t : TGs} {b : MGs} {vs : List Nat} (s : TgsS K t b vs) : TgS K (gTup K n t) (gTp n b) vs := fun w H h x d σ env env' Q ok vr er e q => by
  unfold gTp at e
  split at e
  · next ds =>
    split at e
    · next hl =>
      obtain ⟨p, zs, rfl, h1, r1⟩ := getT_ok ok vr rfl
      exact ⟨p, zs, rfl, h1, by rw [r1.length]; exact hl, s w H h zs ds σ env env' Q ok r1 er e q⟩
    · cases e
  · cases e
def mAsg (a : ME) (g : MG) : MS := fun env h => RsS (a env h) env fun d h1 => match g d env h1 with
  | some e1 => .nx e1 h1
  | none => .stuck
theorem t_asg [Tbl] {K : PySem.W.Frag} {te : TE} {m : ME} {g : TG} {b : MG} {vs : List Nat} (ht : ∀ σ H Q, tE K gm W m σ H Q → te σ H Q) (hg : TgS K g b vs) : ∀ D σ H, tS K gm W (mAsg m b) D σ H → tAsg te g D σ H := fun D σ H ⟨w, env, h, ok, er, p⟩ =>
  ht _ _ _ ⟨w, env, h, ok, er, PostS.bind er p fun v d w' H' h' s ok' vr p' => by
    cases q : b d env h' with
    | none => rw [q] at p'; exact p'.elim
    | some e1 =>
      rw [q] at p'
      exact hg w' H' h' v d σ env e1 _ ok' vr (er.mono s) q fun σ' er' _ => p' σ' w' H' (Step.refl _ _) ok' er'⟩
theorem s_set [Tbl] {i : Nat} {x : Str} {m : ME} {pos' : Pos} (hN : X.N.Nodup) (hi : X.N[i]? = some x) (hx : Loc X.env.scope x) (he : PE X e (tE X.K X.mg W m)) (hs : swapsWith e (some (.Name x pos')) pos.line X.env = pure false := by rfl) (hf : X.fn x = true ∨ X.env.scope.names.lookup x = some .local := by first | exact .inl rfl | exact .inr rfl | assumption) :
    PS X (.Assign [.Name x pos'] e pos) (tS X.K X.mg W (mAsg m (gNm i))) := PS.imp (ps_set hN hi hx he hs hf) (t_asg (fun _ _ _ h => h) (g_nm i))
theorem s_asg [Tbl] {tg : Expr} {m : ME} {g : TG} {b : MG} {vs : List Nat} (hg : PG X tg g) (hb : TgS X.K g b vs) (he : PE X e (tE X.K X.mg W m)) (hs : swapsWithSole [tg] e pos.line X.env = pure false := by rfl) (hw : swappedStores [tg] e X.env = pure none := by rfl)
    (h1 : (assignEach [tg] X.env).map (·.2) = [assign tg X.env] := by rfl) : PS X (.Assign [tg] e pos) (tS X.K X.mg W (mAsg m b)) := PS.imp (ps_asg he hg hs hw h1) (t_asg (fun _ _ _ h => h) hb)
/-- x += e, x an int or a text -/
def mAug (i : Nat) (g : D → D → Hap → Option D) (a : ME) : MS := fun env h => match env[i]? with
  | some (some d0) => RsS (a env h) env fun d h1 => match g d0 d h1 with
    | some d2 => .nx (env.set i (some d2)) h1
    | none => .stuck
  | _ => .stuck
def IpS [Tbl] (K : PySem.W.Frag) (t : TIp) (g : D → D → Hap → Option D) : Prop := OpS K t g
theorem s_aug [Tbl] {i : Nat} {x : Str} {m : ME} {op : Operator} {ti : TIp} {g : D → D → Hap → Option D} {pos' : Pos} (hN : X.N.Nodup) (hi : X.N[i]? = some x) (hx : Loc X.env.scope x) (ho : PIp X op ti) (hg : IpS X.K ti g) (he : PE X e (tE X.K X.mg W m)) (hf : X.fn x = true ∨ X.env.scope.names.lookup x = some .local := by first | exact .inl rfl | exact .inr rfl | assumption) :
    PS X (.AugAssign (.Name x pos') op e pos) (tS X.K X.mg W (mAug i g m)) := PS.imp (ps_aug hN hi hx he ho hf) fun D σ H ⟨w, env, h, ok, er, p⟩ => by
  unfold mAug at p
  split at p
  · next d0 e0 =>
    obtain ⟨v0, e1, r0⟩ := er.get i d0 e0
    refine ⟨v0, e1, w, env, h, ok, er, PostS.bind er p fun v d w' H' h' s ok' vr p' => ?_⟩
    cases q : g d0 d h' with
    | none => rw [q] at p'; exact p'.elim
    | some d2 =>
      rw [q] at p'
      exact hg w' H' h' v0 v d0 d d2 _ ok' (r0.mono s) vr q fun z w2 H2 s2 ok2 r2 => p' _ w2 H2 s2 ok2 (((er.mono s).mono s2).set r2 i)
  · exact p.elim
theorem ip_I [Tbl] {f : Int → Int → Int} {g : D → D → Hap → Option D} {K : PySem.W.Frag} (hf : ∀ a b h d, g a b h = some d → ∃ i j, a = .int i ∧ b = .int j ∧ d = .int (f i j)) : IpS K (ipI f) g := by
  intro w H h x y a b d Q ok vx vy e q
  obtain ⟨i, j, rfl, rfl, rfl⟩ := hf a b h d e
  cases vx
  cases vy
  exact ⟨i, j, rfl, rfl, q _ _ _ (Step.refl _ _) ok (.int _)⟩
def dAddI : D → D → Hap → Option D := fun a b _ => match a, b with
  | .int i, .int j => some (.int (i + j))
  | _, _ => none
theorem i_add [Tbl] {K : PySem.W.Frag} : IpS K (ipI fun i j => i + j) dAddI := ip_I fun a b h d e => by
  unfold dAddI at e
  split at e <;> cases e
  exact ⟨_, _, rfl, rfl, rfl⟩
theorem i_sub [Tbl] {K : PySem.W.Frag} : IpS K (ipI fun i j => i - j) dSub := ip_I fun a b h d e => by
  unfold dSub at e
  split at e <;> cases e
  exact ⟨_, _, rfl, rfl, rfl⟩
/-- o[i] = e, o a cell -/
def sIx : D → D → D → Hap → Option Hap := fun o i v h => match o, i with
  | .ref j, .int k => match h[j]? with
    | some (.lst xs) => (ixN xs.length k).map fun n => h.set j (.lst (xs.set n v))
    | _ => none
  | _, _ => none
def mSub (a o i : ME) : MS := fun env h => RsS (a env h) env fun d h1 => RsS (o env h1) env fun od h2 => RsS (i env h2) env fun id h3 => match sIx od id d h3 with
  | some h4 => .nx env h4
  | none => .stuck
theorem s_sub1 [Tbl] {o i : Expr} {ma mo mi : ME} {pos' : Pos} (he : PE X e (tE X.K X.mg W ma)) (ho : PE X o (tE X.K X.mg W mo)) (hi : PE X i (tE X.K X.mg W mi)) (hs : swapsWithSole [.Subscript o i pos'] e pos.line X.env = pure false := by rfl) (hw : swappedStores [.Subscript o i pos'] e X.env = pure none := by rfl)
    (h1 : (assignEach [.Subscript o i pos'] X.env).map (·.2) = [assign (.Subscript o i pos') X.env] := by rfl)
    (ha : ∀ v, assign (.Subscript o i pos') X.env v = (do
      let ov ← holding [v] (eval o X.env)
      let iv ← holding [v, ov] (eval i X.env)
      standAt pos'
      holding [v, ov, iv] (setItem ov iv v)
      release [v, ov, iv] []) := by intro _; rfl) : PS X (.Assign [.Subscript o i pos'] e pos) (tS X.K X.mg W (mSub ma mo mi)) :=
  PS.imp (ps_asg he (pg_sub ho hi set_list ha) hs hw h1) fun D σ H ⟨w, env, h, ok, er, p⟩ => ⟨w, env, h, ok, er, PostS.bind er p fun v d w1 H1 h1 s1 ok1 v1 p1 =>
    ⟨w1, env, h1, ok1, er.mono s1, PostS.bind (er.mono s1) p1 fun vo od w2 H2 h2 s2 ok2 v2 p2 => ⟨w2, env, h2, ok2, (er.mono s1).mono s2, PostS.bind ((er.mono s1).mono s2) p2 fun vi id w3 H3 h3 s3 ok3 v3 p3 => by
      cases q : sIx od id d h3 with
      | none => rw [q] at p3; exact p3.elim
      | some h4 =>
        rw [q] at p3
        unfold sIx at q
        split at q
        · next j k =>
          split at q
          · next xs e1 =>
            obtain ⟨n, e2, rfl⟩ := Option.map_eq_some_iff.mp q
            cases v3
            cases v2 with
            | ref e3 =>
              next a =>
              have e3' := s3.ix e3
              obtain ⟨_, ob, e4, e5⟩ := ok3.cel j a _ e3' e1
              cases ob <;> simp [CRel] at e5
              next vs =>
              have z := ok3.write (hn := by rw [e1]; exact fun _ z => nomatch z) (o := .lst (vs.set n v)) (c := .lst (xs.set n d)) e3' (VRs.set ((v1.mono s2).mono s3) n e5)
              exact ⟨a, vs, k, n, rfl, rfl, e4, by rw [e5.length]; exact e2, p3 σ _ _ z.2 z.1 ((((er.mono s1).mono s2).mono s3).mono z.2)⟩
          · cases q
        · cases q⟩⟩⟩
end

/-! ### what is walked -/
/-- J gives the items xs, one by one, while V holds of the world and gd of the cells -/
structure Wk [Tbl] (K : PySem.W.Frag) (J : It) (xs : List D) (V : Wd → Prop) (gd : Hap → Prop) : Prop where
  up : ∀ w H w' H', Step w H w' H' → V w → V w'
  goes : ∀ w H h i, Ok K w H h → V w → gd h → i < xs.length → J.go i H
  stops : ∀ w H h, Ok K w H h → V w → gd h → J.stop xs.length H
  yields : ∀ w H h i y H', Ok K w H h → V w → gd h → i < xs.length → J.yld i H y H' → ∃ w', Step w H w' H' ∧ Ok K w' H' h ∧ ∃ e, xs[i]? = some e ∧ VR K w' y e
/-- an item that is there already -/
theorem yld0 [Tbl] {K : PySem.W.Frag} {w : Wd} {H H' : Hp} {h : Hap} {xs : List D} {i : Nat} {y : V} (ok : Ok K w H h) (z : H' = H ∧ ∃ e, xs[i]? = some e ∧ VR K w y e) : ∃ w', Step w H w' H' ∧ Ok K w' H' h ∧ ∃ e, xs[i]? = some e ∧ VR K w' y e := by
  obtain ⟨rfl, e, e1, e2⟩ := z
  exact ⟨w, Step.refl _ _, ok, e, e1, e2⟩
/-- what no world knows stays -/
theorem Step.own {w w' : Wd} {H H' : Hp} {a : Addr} {o : HO} (st : Step w H w' H') (d : H a = some o) (f : w.F a = none) (r : a ∉ w.ρ) (nt : NT o) : H' a = some o ∧ w'.F a = none ∧ a ∉ w'.ρ := by
  refine ⟨st.keep _ _ r nt d, ?_, fun m => ?_⟩
  · cases z : w'.F a with
    | none => rfl
    | some q =>
      rcases st.nf a q z with z2 | z2
      · rw [f] at z2; cases z2
      · rw [d] at z2; cases z2
  · rcases st.new a m with z2 | z2
    · exact r z2
    · rw [d] at z2; cases z2
def VI [Tbl] (K : PySem.W.Frag) (w : Wd) (J : It) (s : List D × (Hap → Prop)) : Prop := ∃ V : Wd → Prop, V w ∧ Wk K J s.1 V s.2
abbrev MI := Env → Hap → Rs (List D × (Hap → Prop))
def tI [Tbl] (K : PySem.W.Frag) (gm : Str → Option Value) (W : WX) (m : MI) : TI := fun σ H R => ∃ w env h, Ok K w H h ∧ EnvR K w σ env ∧ Post K gm (VI K) w H (m env h) R fun c d H' => W c d σ H'
theorem PI.imp {X : Cx} {tg e : Expr} {t t' : TI} (p : PI X tg e t) (i : ∀ σ H Q, t' σ H Q → t σ H Q) : PI X tg e t' := ⟨fun pins s σ H Q I h => p.run pins s σ H Q I (i _ _ _ h)⟩
theorem PI.or {X : Cx} {tg e : Expr} {t t' : TI} (p : PI X tg e t) (p' : PI X tg e t') : PI X tg e fun σ H R => t σ H R ∨ t' σ H R := ⟨fun pins s σ H Q I h => by
  rcases h with h | h
  · exact p.run pins s σ H Q I h
  · exact p'.run pins s σ H Q I h⟩
def mI (m : ME) : MI := fun env h => (m env h).bind fun d h1 => match seqOf d h1 with
  | some xs => .ok (xs, fun h => seqOf d h = some xs) h1
  | none => .stuck
theorem wk_list [Tbl] {K : PySem.W.Frag} {a : Addr} {d : D} {xs : List D} (hd : ∀ h ys, seqOf d h = some ys → getL d h = some ys) : Wk K (Itl K a) xs (fun w => VR K w (.ref a) d) (fun h => seqOf d h = some xs) where
  up := fun w H w' H' s r => r.mono s
  goes := fun w H h i ok r g hi => by
    obtain ⟨b, vs, e, h1, r1⟩ := getL_ok ok r (hd h xs g)
    cases e
    exact ⟨vs, vs[i]'(by rw [r1.length]; exact hi), h1, by simp [r1.length, hi]⟩
  stops := fun w H h ok r g => by
    obtain ⟨b, vs, e, h1, r1⟩ := getL_ok ok r (hd h xs g)
    cases e
    exact ⟨vs, h1, by rw [r1.length]; exact Nat.le_refl _⟩
  yields := fun w H h i y H' ok r g hi q => yld0 ok <| by
    obtain ⟨b, vs, e, h1, r1⟩ := getL_ok ok r (hd h xs g)
    cases e
    exact ⟨q.1, r1.get (q.2 vs h1)⟩
theorem wk_tup [Tbl] {K : PySem.W.Frag} {a : Addr} {xs : List D} : Wk K (Itt K a) xs (fun w => VR K w (.ref a) (.tup xs)) (fun h => seqOf (.tup xs) h = some xs) where
  up := fun w H w' H' s r => r.mono s
  goes := fun w H h i ok r g hi => by
    obtain ⟨b, vs, e, h1, r1⟩ := getT_ok ok r rfl
    cases e
    exact ⟨vs, vs[i]'(by rw [r1.length]; exact hi), h1, by simp [r1.length, hi]⟩
  stops := fun w H h ok r g => by
    obtain ⟨b, vs, e, h1, r1⟩ := getT_ok ok r rfl
    cases e
    exact ⟨vs, h1, by rw [r1.length]; exact Nat.le_refl _⟩
  yields := fun w H h i y H' ok r g hi q => yld0 ok <| by
    obtain ⟨b, vs, e, h1, r1⟩ := getT_ok ok r rfl
    cases e
    exact ⟨q.1, r1.get (q.2 vs h1)⟩
theorem wk_str [Tbl] {K : PySem.W.Frag} {z : Str} {gd : Hap → Prop} : Wk K (Its z) (z.cps.toList.map fun c => .str (ch c)) (fun _ => True) gd where
  up := fun _ _ _ _ _ _ => trivial
  goes := fun w H h i ok r g hi => by
    have q : i < z.cps.size := by simpa using hi
    exact q
  stops := fun w H h ok r g => by show z.cps.size ≤ _; simp
  yields := fun w H h i y H' ok r g hi q => yld0 ok <| by
    obtain ⟨e, c, h1, rfl⟩ := q
    refine ⟨e, .str (ch c), ?_, .str _⟩
    rw [List.getElem?_map]
    have : z.cps.toList[i]? = some c := by rw [Array.getElem?_toList]; exact h1
    rw [this]
    rfl
theorem i_any [Tbl] {X : Cx} {W : WX} {tg e : Expr} {m : ME} (he : PE X e (tE X.K X.mg W m)) : PI X tg e (tI X.K X.mg W (mI m)) := PI.imp (PI.or (pi_list he) (PI.or (pi_tup he) (pi_str he))) fun σ H Q ⟨w, env, h, ok, er, p⟩ => by
  have base : ∀ R : VK, (∀ v a w' H' h', Step w H w' H' → Ok X.K w' H' h' → m env h = .ok a h' → VR X.K w' v a → Post X.K X.mg (VI X.K) w' H' (match seqOf a h' with
      | some xs => .ok (xs, fun h => seqOf a h = some xs) h'
      | none => .stuck) Q (fun c d H' => W c d σ H') → R v H') → tE X.K X.mg W m σ H R := by
    intro R k
    refine ⟨w, env, h, ok, er, ?_⟩
    unfold mI at p
    revert p k
    cases m env h with
    | ok a h1 => exact fun p k v w' H' s ok' vr => k v a w' H' h1 s ok' rfl vr (Post.step s p)
    | err c fs h1 => exact fun p _ => p
    | stuck => exact fun p _ => p
  by_cases c1 : ∃ xs h1, m env h = .ok (.tup xs) h1
  · obtain ⟨xs, h1, e1⟩ := c1
    refine .inr (.inl (base _ fun v a w' H' h' s ok' e2 vr p' => ?_))
    rw [e1] at e2
    cases e2
    obtain ⟨b, vs, rfl, q1, q2⟩ := getT_ok ok' vr rfl
    exact ⟨b, rfl, ⟨vs, q1⟩, p'.ok ok' ⟨_, vr, wk_tup⟩⟩
  · by_cases c2 : ∃ z h1, m env h = .ok (.str z) h1
    · obtain ⟨z, h1, e1⟩ := c2
      refine .inr (.inr (base _ fun v a w' H' h' s ok' e2 vr p' => ?_))
      rw [e1] at e2
      cases e2
      cases vr
      exact ⟨z, rfl, p'.ok ok' ⟨_, trivial, wk_str⟩⟩
    · refine .inl (base _ fun v a w' H' h' s ok' e2 vr p' => ?_)
      have hd : ∀ h ys, seqOf a h = some ys → getL a h = some ys := by
        intro h ys e
        unfold seqOf at e
        split at e
        · exact absurd ⟨_, _, e2⟩ c2
        · exact absurd ⟨_, _, e2⟩ c1
        · exact e
      cases e3 : seqOf a h' with
      | none => rw [e3] at p'; exact p'.elim
      | some xs =>
        rw [e3] at p'
        obtain ⟨b, vs, rfl, q1, q2⟩ := getL_ok ok' vr (hd _ _ e3)
        exact ⟨b, rfl, ⟨vs, q1⟩, p'.ok ok' ⟨_, vr, wk_list hd⟩⟩
/-- range -/
def rngL (lo : Int) (n : Nat) : List D := (List.range n).map fun (i : Nat) => .int (lo + (i : Int))
theorem wk_rng [Tbl] {K : PySem.W.Frag} {lo : Int} {n : Nat} : Wk K (Itr lo n) (rngL lo n) (fun _ => True) (fun _ => True) where
  up := fun _ _ _ _ _ _ => trivial
  goes := fun w H h i ok r g hi => by
    have : i < n := by simpa [rngL] using hi
    exact this
  stops := fun w H h ok r g => by show n ≤ _; simp [rngL]
  yields := fun w H h i y H' ok r g hi q => yld0 ok <| by
    obtain ⟨e, rfl⟩ := q
    have hi' : i < n := by simpa [rngL] using hi
    exact ⟨e, .int (lo + i), by simp [rngL, hi'], .int _⟩
def rng1 : List D → Option (List D × (Hap → Prop))
  | [.int j] => if -(2 ^ 62) ≤ j ∧ j < 2 ^ 62 then some (rngL 0 j.toNat, fun _ => True) else none
  | _ => none
def rng2 : List D → Option (List D × (Hap → Prop))
  | [.int i, .int j] => if -(2 ^ 62) ≤ i ∧ i < 2 ^ 62 ∧ -(2 ^ 62) ≤ j ∧ j < 2 ^ 62 then some (rngL i (j - i).toNat, fun _ => True) else none
  | _ => none
def mRng (f : List D → Option (List D × (Hap → Prop))) (a : MA) : MI := fun env h => (a env h).bind fun xs h1 => ofO (f xs) h1
section
variable {X : Cx} {W : WX} {tg a b : Expr} {p pos : Pos} {m : MA}
theorem i_rng1 [Tbl] (hm : X.mg "range" = none) (hg : Gl X "range") (ha : PA X [a] (tA X.K X.mg W m)) (hs : starEach [a] X.env = [(false, eval a X.env)] := by rfl) : PI X tg (.Call (.Name "range" p) [a] [] pos) (tI X.K X.mg W (mRng rng1 m)) :=
  PI.imp (pi_range1 hg hm ha hs) fun σ H Q ⟨w, env, h, ok, er, p⟩ => ⟨w, env, h, ok, er, Post.bind p fun vs ds w' H' h' s ok' vr p' => by
    obtain ⟨d, e, q⟩ := ofO_post p'
    unfold rng1 at e
    split at e
    · split at e
      · next c =>
        cases e
        obtain ⟨x, rfl, r⟩ := vrs1 vr
        cases r
        exact ⟨_, rfl, c.1, c.2, q _ _ _ (Step.refl _ _) ok' ⟨_, trivial, wk_rng⟩⟩
      · cases e
    · cases e⟩
theorem i_rng2 [Tbl] (hm : X.mg "range" = none) (hg : Gl X "range") (ha : PA X [a, b] (tA X.K X.mg W m)) (hs : starEach [a, b] X.env = [(false, eval a X.env), (false, eval b X.env)] := by rfl) (hs2 : starEach [b] X.env = [(false, eval b X.env)] := by rfl) : PI X tg (.Call (.Name "range" p) [a, b] [] pos) (tI X.K X.mg W (mRng rng2 m)) :=
  PI.imp (pi_range2 hg hm ha hs hs2) fun σ H Q ⟨w, env, h, ok, er, p⟩ => ⟨w, env, h, ok, er, Post.bind p fun vs ds w' H' h' s ok' vr p' => by
    obtain ⟨d, e, q⟩ := ofO_post p'
    unfold rng2 at e
    split at e
    · split at e
      · next c =>
        cases e
        obtain ⟨x, y, rfl, r, r2⟩ := vrs2 vr
        cases r
        cases r2
        exact ⟨_, _, rfl, c, q _ _ _ (Step.refl _ _) ok' ⟨_, trivial, wk_rng⟩⟩
      · cases e
    · cases e⟩
end

/-! ### for -/
@[reducible] def RS.turn (r : RS) (k : Env → Hap → RS) : RS := match r with
  | .nx e h => k e h
  | .ct e h => k e h
  | .bk e h => .nx e h
  | .rt d h => .rt d h
  | .er c fs e h => .er c fs e h
  | .stuck => .stuck
def forL (gd : Hap → Prop) (g : MG) (b : MS) : List D → Env → Hap → RS
  | [], env, h => if gd h then .nx env h else .stuck
  | x :: xs, env, h => if gd h then match g x env h with
    | some e1 => (b e1 h).turn (forL gd g b xs)
    | none => .stuck
    else .stuck
def mFor (s : MI) (g : MG) (b : MS) : MS := fun env h => RsS (s env h) env fun s h1 => forL s.2 g b s.1 env h1
theorem t_for [Tbl] {K : PySem.W.Frag} {W : WX} {wi : TI} {s : MI} {g : TG} {mg : MG} {vs : List Nat} {tb : TS} {b : MS} (hi : ∀ σ H Q, tI K gm W s σ H Q → wi σ H Q) (hg : TgS K g mg vs) (hb : ∀ D σ H, tS K gm W b D σ H → tb D σ H) : ∀ D σ H, tS K gm W (mFor s mg b) D σ H → tFor wi g tb D σ H := fun D σ H ⟨w, env, h, ok, er, p⟩ => by
  refine hi _ _ _ ⟨w, env, h, ok, er, PostS.bind er p fun J s w' H' h' st ok' vr p' => ?_⟩
  obtain ⟨xs, gd⟩ := s
  obtain ⟨V, v0, wk⟩ := vr
  refine ⟨fun i m σ H => m = xs.length - i ∧ i ≤ xs.length ∧ ∃ w env h, Ok K w H h ∧ EnvR K w σ env ∧ V w ∧ PostS K gm w H (forL gd mg b (xs.drop i) env h) D W, ⟨xs.length, by simp, Nat.zero_le _, w', env, h', ok', er.mono st, v0, by simpa using p'⟩, ?_⟩
  rintro i m σ1 H1 ⟨rfl, hi, w1, env1, h1, ok1, er1, v1, p1⟩
  by_cases hl : i < xs.length
  · rw [List.drop_eq_getElem_cons hl] at p1
    unfold forL at p1
    by_cases g0 : gd h1
    · rw [if_pos g0] at p1
      refine .inr ⟨wk.goes w1 H1 h1 i ok1 v1 g0 hl, fun σ H => i + 1 ≤ xs.length ∧ ∃ w env h, Ok K w H h ∧ EnvR K w σ env ∧ V w ∧ PostS K gm w H (forL gd mg b (xs.drop (i + 1)) env h) D W, fun σ' H' z => ⟨xs.length - (i + 1), by omega, rfl, z⟩, fun y H' z => ?_⟩
      obtain ⟨w1, st1, ok1, e, e1, r1⟩ := wk.yields w1 H1 h1 i y H' ok1 v1 g0 hl z
      have v1 := wk.up _ _ _ _ st1 v1
      have er1 := er1.mono st1
      have p1 := PostS.step st1 p1
      have e2 : xs[i] = e := by
        rw [List.getElem?_eq_getElem hl] at e1
        exact Option.some.inj e1
      rw [e2] at p1
      cases q : mg e env1 h1 with
      | none => rw [q] at p1; exact p1.elim
      | some e3 =>
        rw [q] at p1
        refine hg w1 _ h1 y e σ1 env1 e3 _ ok1 r1 er1 q fun σ2 er2 _ => hb _ _ _ ⟨w1, e3, h1, ok1, er2, ?_⟩
        have p2 : PostS K gm w1 _ ((b e3 h1).turn (forL gd mg b (xs.drop (i + 1)))) D W := p1
        clear p1
        revert p2
        cases q2 : b e3 h1 with
        | nx e4 h4 => exact fun p1 σ3 w3 H3 s3 ok3 er3 => ⟨hl, w3, e4, h4, ok3, er3, wk.up _ _ _ _ s3 v1, PostS.step s3 p1⟩
        | ct e4 h4 => exact fun p1 σ3 w3 H3 s3 ok3 er3 => ⟨hl, w3, e4, h4, ok3, er3, wk.up _ _ _ _ s3 v1, PostS.step s3 p1⟩
        | bk e4 h4 => exact fun p1 => p1
        | rt d h4 => exact fun p1 => p1
        | er c fs e4 h4 => exact fun p1 => p1
        | stuck => exact fun p1 => p1
    · rw [if_neg g0] at p1
      exact p1.elim
  · have e : i = xs.length := by omega
    subst e
    rw [List.drop_length] at p1
    unfold forL at p1
    by_cases g0 : gd h1
    · rw [if_pos g0] at p1
      exact .inl ⟨wk.stops w1 H1 h1 ok1 v1 g0, p1 _ _ _ (Step.refl _ _) ok1 er1⟩
    · rw [if_neg g0] at p1
      exact p1.elim
theorem s_for [Tbl] {X : Cx} {W : WX} {tg iter : Expr} {body : List Stmt} {s : MI} {g : TG} {mg : MG} {vs : List Nat} {b : MS} {pos : Pos} (hp : PassesOwn (model X.prog X.w) X.A X.env X.xe) (hc : X.calm = true) (hg : PG X tg g) (hb : TgS X.K g mg vs) (hi : PI X tg iter (tI X.K X.mg W s)) (hbd : PSs X body (tS X.K X.mg W b))
    (hs : ∀ x, foldedSetIterable iter X.env x = pure x := by intro _; rfl) : PS X (.For tg iter body [] pos) (tS X.K X.mg W (mFor s mg b)) := PS.imp (ps_for hp hc hi hg hbd hs) (t_for (fun _ _ _ h => h) hb fun _ _ _ h => h)

/-! ### while -/
def whL (c : MT) (b : MS) : Nat → Env → Hap → RS
  | 0, _, _ => .stuck
  | n + 1, env, h => RsS (c env h) env fun t h1 => if t = true then (b env h1).turn (whL c b n) else .nx env h1
def mWh (n : Nat) (c : MT) (b : MS) : MS := whL c b n
theorem s_wh [Tbl] {X : Cx} {W : WX} (n : Nat) {c : Expr} {body : List Stmt} {mc : MT} {b : MS} {pos : Pos} (hp : PassesOwn (model X.prog X.w) X.A X.env X.xe) (hc : PT X c (tT X.K X.mg W mc)) (hb : PSs X body (tS X.K X.mg W b)) : PS X (.While c body [] pos) (tS X.K X.mg W (mWh n mc b)) := PS.imp (ps_while hp hc hb) fun D σ H ⟨w, env, h, ok, er, p⟩ => by
  refine ⟨fun m σ H => ∃ w env h, Ok X.K w H h ∧ EnvR X.K w σ env ∧ PostS X.K X.mg w H (whL mc b m env h) D W, ⟨n, w, env, h, ok, er, p⟩, ?_⟩
  rintro m σ1 H1 ⟨w1, env1, h1, ok1, er1, p1⟩
  cases m with
  | zero => exact p1.elim
  | succ m =>
    unfold whL at p1
    refine ⟨w1, env1, h1, ok1, er1, PostS.bind er1 p1 fun v t w2 H2 h2 s2 ok2 vr p2 => ?_⟩
    cases vr
    cases v with
    | false => exact p2 σ1 w2 H2 (Step.refl _ _) ok2 (er1.mono s2)
    | true =>
      refine ⟨fun σ H => ∃ w env h, Ok X.K w H h ∧ EnvR X.K w σ env ∧ PostS X.K X.mg w H (whL mc b m env h) D W, fun σ' H' z => ⟨m, Nat.lt_succ_self m, z⟩, w2, env1, h2, ok2, er1.mono s2, ?_⟩
      rw [if_pos rfl] at p2
      have p3 : PostS X.K X.mg w2 _ ((b env1 h2).turn (whL mc b m)) D W := p2
      clear p2
      revert p3
      cases q2 : b env1 h2 with
      | nx e4 h4 => exact fun p1 σ3 w3 H3 s3 ok3 er3 => ⟨w3, e4, h4, ok3, er3, PostS.step s3 p1⟩
      | ct e4 h4 => exact fun p1 σ3 w3 H3 s3 ok3 er3 => ⟨w3, e4, h4, ok3, er3, PostS.step s3 p1⟩
      | bk e4 h4 => exact fun p1 => p1
      | rt d h4 => exact fun p1 => p1
      | er c fs e4 h4 => exact fun p1 => p1
      | stuck => exact fun p1 => p1

/-! ### comprehensions -/
@[reducible] def Rs.bindN {α β : Type} (r : Rs α) (f : α → Hap → Rs β) : Rs β := match r with
  | .ok a h => f a h
  | _ => .stuck
def wipeE (env : Env) : List Nat → Env
  | [] => env
  | v :: vs => (wipeE env vs).set v none
def compL (gd : Hap → Prop) (vs : List Nat) (g : MG) (c : MT) (e : ME) (env : Env) : List D → Hap → List D → Rs (List D)
  | [], h, acc => if gd h then .ok acc h else .stuck
  | x :: xs, h, acc => if gd h then match g x (wipeE env vs) h with
    | some e1 => (c e1 h).bindN fun t h1 => if t = true then (e e1 h1).bindN fun y h2 => if acc.length < sizeLine then compL gd vs g c e env xs h2 (acc ++ [y]) else .stuck
      else compL gd vs g c e env xs h1 acc
    | none => .stuck
    else .stuck
def mComp (s : MI) (vs : List Nat) (g : MG) (c : MT) (e : ME) : ME := fun env h => (s env h).bind fun s h1 => (compL s.2 vs g c e env s.1 h1 []).bindN fun ys h2 => .ok (.lst ys) h2
def mYes : MT := fun _ h => .ok true h
abbrev W0 : WX := fun _ _ _ _ => False
theorem wipeE_env {K : PySem.W.Frag} {w : Wd} {σ : L2.St} {env : Env} (er : EnvR K w σ env) : ∀ vs : List Nat, EnvR K w (wipe σ vs) (wipeE env vs)
  | [] => er
  | v :: vs => by
    have q := wipeE_env er vs
    unfold wipe wipeE
    refine ⟨by rw [List.length_set, List.length_set]; exact q.len, fun j d e => ?_⟩
    by_cases z : v = j
    · subst z
      by_cases hl : v < (wipeE env vs).length
      · rw [List.getElem?_set_self hl] at e; cases e
      · rw [List.getElem?_eq_none (by rw [List.length_set]; omega)] at e; cases e
    · rw [List.getElem?_set_ne z] at e ⊢
      exact q.get j d e
theorem Post.bindN [Tbl] {K : PySem.W.Frag} {α β γ δ : Type} {VA : Wd → β → α → Prop} {r : Rs α} {f : α → Hap → Rs γ} {w : Wd} {H : Hp} {Q1 : β → Hp → Prop} {E : XK} (hn : r.bindN f ≠ .stuck) (k : ∀ v a w' H' h', r = .ok a h' → Step w H w' H' → Ok K w' H' h' → VA w' v a → Q1 v H') : Post K gm VA w H r Q1 E := by
  cases r with
  | ok a h => exact fun v w' H' s ok vr => k v a w' H' h rfl s ok vr
  | err c fs h => exact absurd rfl hn
  | stuck => exact absurd rfl hn
theorem Step.put {w w' : Wd} {H H' : Hp} {p : Addr} {o : HO} (s : Step w H w' H') (hp : H p = none) : Step w H w' (upd H' p o) := ⟨s.f, s.r, fun a u n nt e => by
    rw [upd_ne (ne_of_none e hp)]
    exact s.keep a u n nt e, fun a e => by
    by_cases q : a = p
    · subst q; exact absurd hp e
    · rw [upd_ne q]; exact s.dom a e, s.new, s.nf⟩
theorem t_comp [Tbl] {K : PySem.W.Frag} {W : WX} {wi : TI} {s : MI} {g : TG} {mg : MG} {us vs : List Nat} {tt : TT} {te : TE} {c : MT} {e : ME} (hi : ∀ σ H Q, tI K gm W s σ H Q → wi σ H Q) (hg : TgS K g mg us) (hu : ∀ i ∈ us, i ∈ vs) (ht : ∀ σ H Q, tT K gm W0 c σ H Q → tt σ H Q) (he : ∀ σ H Q, tE K gm W0 e σ H Q → te σ H Q) :
    ∀ σ H Q, tE K gm W (mComp s vs mg c e) σ H Q → tLc wi g tt te vs σ H Q := fun σ H Q ⟨w, env, h, ok, er, p⟩ => by
  refine hi _ _ _ ⟨w, env, h, ok, er, Post.bind p fun J s w1 H1 h1 s1 ok1 vr p1 => fun Da hD => ?_⟩
  obtain ⟨xs, gd⟩ := s
  obtain ⟨V, v0, wk⟩ := vr
  have er1 := er.mono s1
  obtain ⟨f0, r0⟩ := ok1.fresh hD
  generalize hr : compL gd vs mg c e env xs h1 [] = r at p1
  refine ⟨fun i m H => m = xs.length - i ∧ i ≤ xs.length ∧ ∃ w h acc vacc, Ok K w H h ∧ Step w1 H1 w H ∧ V w ∧ H Da = some (.lst vacc) ∧ w.F Da = none ∧ Da ∉ w.ρ ∧ VRs K w vacc acc ∧ compL gd vs mg c e env (xs.drop i) h acc = r,
    ⟨xs.length, by simp, Nat.zero_le _, w1, h1, [], [], ok1.put (fun o e => by rw [hD] at e; cases e) f0 r0, (Step.refl w1 H1).put hD, v0, upd_same, f0, r0, .nil, by simpa using hr⟩, ?_⟩
  rintro i m H2 ⟨rfl, hi, w2, h2, acc, vacc, ok2, s2, v2, d2, f2, r2, a2, hr2⟩
  have ns : r ≠ .stuck := fun z => by rw [z] at p1; exact p1
  by_cases hl : i < xs.length
  · rw [List.drop_eq_getElem_cons hl] at hr2
    unfold compL at hr2
    by_cases g0 : gd h2
    · rw [if_pos g0] at hr2
      refine .inr ⟨wk.goes w2 H2 h2 i ok2 v2 g0 hl, fun H => i + 1 ≤ xs.length ∧ ∃ w h acc vacc, Ok K w H h ∧ Step w1 H1 w H ∧ V w ∧ H Da = some (.lst vacc) ∧ w.F Da = none ∧ Da ∉ w.ρ ∧ VRs K w vacc acc ∧ compL gd vs mg c e env (xs.drop (i + 1)) h acc = r,
        fun H' z => ⟨xs.length - (i + 1), by omega, rfl, z⟩, fun y H' z => ?_⟩
      obtain ⟨w2, st2, ok2, el, e1, ry⟩ := wk.yields w2 H2 h2 i y H' ok2 v2 g0 hl z
      obtain ⟨d2, f2, r2⟩ := st2.own d2 f2 r2 fun _ z => nomatch z
      have v2 := wk.up _ _ _ _ st2 v2
      have a2 := a2.mono st2
      have s2 := s2.trans st2
      have e2 : xs[i] = el := by
        rw [List.getElem?_eq_getElem hl] at e1
        exact Option.some.inj e1
      rw [e2] at hr2
      cases q : mg el (wipeE env vs) h2 with
      | none => rw [q] at hr2; exact absurd hr2.symm ns
      | some e3 =>
        rw [q] at hr2
        have hr3 : ((c e3 h2).bindN fun t h1 => if t = true then (e e3 h1).bindN fun y h2 => if acc.length < sizeLine then compL gd vs mg c e env (xs.drop (i + 1)) h2 (acc ++ [y]) else .stuck
          else compL gd vs mg c e env (xs.drop (i + 1)) h1 acc) = r := hr2
        refine hg w2 _ h2 y el (wipe σ vs) (wipeE env vs) e3 _ ok2 ry (wipeE_env (er1.mono s2) vs) q fun σ2 er2 wp => ⟨?_, ht _ _ _ ⟨w2, e3, h2, ok2, er2, Post.bindN (f := fun t h1 => if t = true then (e e3 h1).bindN fun y h2 => if acc.length < sizeLine then compL gd vs mg c e env (xs.drop (i + 1)) h2 (acc ++ [y]) else .stuck
      else compL gd vs mg c e env (xs.drop (i + 1)) h1 acc) (δ := D) (by rw [hr3]; exact ns) fun b t w3 H3 h3 ec s3 ok3 vb => ?_⟩⟩
        · rw [wp vs hu]
          clear wp er2
          have idem : ∀ (us : List Nat) (τ : L2.St), (∀ i ∈ us, i ∈ vs) → wipe (wipe τ us) vs = wipe τ vs := by
            intro us
            induction us with
            | nil => intro τ _; rfl
            | cons u us ih =>
              intro τ hm
              show wipe ((wipe τ us).set u none) vs = _
              rw [wipe_set (hm u List.mem_cons_self), ih τ fun i m => hm i (List.mem_cons_of_mem _ m)]
          exact idem vs σ fun _ m => m
        · cases vb
          have hr4 := hr3
          rw [ec] at hr4
          have keepD : ∀ {w' : Wd} {H' : Hp} {wa : Wd} {Ha : Hp} {va : List L2.V}, Step wa Ha w' H' → Ha Da = some (.lst va) → wa.F Da = none → Da ∉ wa.ρ → H' Da = some (.lst va) ∧ w'.F Da = none ∧ Da ∉ w'.ρ := by
            intro w' H' wa Ha va st da fa ra
            refine ⟨st.keep _ _ ra (fun _ z => nomatch z) da, ?_, fun m => ?_⟩
            · cases z : w'.F Da with
              | none => rfl
              | some o =>
                rcases st.nf Da o z with z2 | z2
                · rw [fa] at z2; cases z2
                · rw [da] at z2; cases z2
            · rcases st.new Da m with z2 | z2
              · exact ra z2
              · rw [da] at z2; cases z2
          obtain ⟨d3, f3, r3⟩ := keepD s3 d2 f2 r2
          cases b with
          | false => exact ⟨hl, w3, h3, acc, vacc, ok3, s2.trans s3, wk.up _ _ _ _ s3 v2, d3, f3, r3, a2.mono s3, hr4⟩
          | true =>
            have hr5 : ((e e3 h3).bindN fun y h2 => if acc.length < sizeLine then compL gd vs mg c e env (xs.drop (i + 1)) h2 (acc ++ [y]) else .stuck) = r := hr4
            rw [if_pos rfl]
            refine he _ _ _ ⟨w3, e3, h3, ok3, er2.mono s3, Post.bindN (f := fun y h2 => if acc.length < sizeLine then compL gd vs mg c e env (xs.drop (i + 1)) h2 (acc ++ [y]) else .stuck) (δ := D) (by rw [hr5]; exact ns) fun z dz w4 H4 h4 ee s4 ok4 rz => ?_⟩
            rw [ee] at hr5
            have hr6 : (if acc.length < sizeLine then compL gd vs mg c e env (xs.drop (i + 1)) h4 (acc ++ [dz]) else .stuck) = r := hr5
            obtain ⟨d4, f4, r4⟩ := keepD s4 d3 f3 r3
            by_cases hz : acc.length < sizeLine
            · rw [if_pos hz] at hr6
              exact ⟨vacc, d4, by rw [a2.length]; exact hz, hl, w4, h4, acc ++ [dz], vacc ++ [z], ok4.put (fun o e => by rw [d4] at e; cases e; exact fun _ z => nomatch z) f4 r4, ((s2.trans s3).trans s4).put hD, wk.up _ _ _ _ s4 (wk.up _ _ _ _ s3 v2), upd_same, f4, r4, VRs.append ((a2.mono s3).mono s4) (.cons rz .nil), hr6⟩
            · rw [if_neg hz] at hr6
              exact absurd hr6.symm ns
    · rw [if_neg g0] at hr2
      exact absurd hr2.symm ns
  · have ei : i = xs.length := by omega
    subst ei
    rw [List.drop_length] at hr2
    unfold compL at hr2
    by_cases g0 : gd h2
    · rw [if_pos g0] at hr2
      refine .inl ⟨wk.stops w2 H2 h2 ok2 v2 g0, ?_⟩
      rw [← hr2] at p1
      refine p1 (.ref Da) ⟨upd w2.F Da (.lst vacc), w2.ρ⟩ H2 ⟨fun a o x => ?_, s2.r, s2.keep, s2.dom, s2.new, fun a o x => ?_⟩ (ok2.freeze d2 (fun _ z => nomatch z) f2 r2) (.lst upd_same ?_)
      · have x2 := s2.f a o x
        show upd w2.F Da _ a = some o
        rw [upd_ne (ne_of_none x2 f2)]
        exact x2
      · have x' : upd w2.F Da (.lst vacc) a = some o := x
        by_cases z : a = Da
        · subst z; exact .inr hD
        · rw [upd_ne z] at x'
          exact s2.nf a o x'
      · refine VRs.mono' (w := w2) (w' := ⟨upd w2.F Da (.lst vacc), w2.ρ⟩) (fun a o x => ?_) (fun _ _ x => x) a2
        show upd w2.F Da _ a = some o
        rw [upd_ne (ne_of_none x f2)]
        exact x
    · rw [if_neg g0] at hr2
      exact absurd hr2.symm ns
section
variable {X : Cx} {W : WX} {elt tg iter : Expr} {ifs : List Expr} {scope : Scope} {own : List (Str × Nat)} {pos spos : Pos} {s : MI} {g : TG} {mg : MG} {us : List Nat} {c : MT} {e : ME}
theorem ts_nil [Tbl] : PTs X [] (tT X.K X.mg W mYes) := by
  refine ⟨fun pins s σ H Q I h => pts_nil.run pins s σ H Q I ?_⟩
  obtain ⟨w, env, h, ok, er, p⟩ := h
  exact p.ok ok rfl
theorem ts_one [Tbl] {t : Expr} {m : MT} (h : PT X t (tT X.K X.mg W m)) : PTs X [t] (tT X.K X.mg W m) := pts_one h
theorem e_comp [Tbl] (hc : X.calm = true) (hN : X.N.Nodup) (ok : BlkOk X.N X.env.scope scope own) (hu : ∀ i ∈ us, i ∈ own.map (·.2)) (hb : TgS X.K g mg us) (hi : PI X tg iter (tI X.K X.mg W s))
    (hg : ∀ (s : Shared) (H : Hp) (C : Addr) (cl : List (Str × Addr)) (fp : List Addr), PG (X.blk s H scope (compEnvC scope cl C X.env) fp) tg g) (ht : ∀ (s : Shared) (H : Hp) (C : Addr) (cl : List (Str × Addr)) (fp : List Addr), PTs (X.blk s H scope (compEnvC scope cl C X.env) fp) ifs (tT X.K X.mg W0 c))
    (he : ∀ (s : Shared) (H : Hp) (C : Addr) (cl : List (Str × Addr)) (fp : List Addr), PE (X.blk s H scope (compEnvC scope cl C X.env) fp) elt (tE X.K X.mg W0 e)) (hs : ∀ x, foldedSetIterable iter X.env x = pure x := by intro _; rfl) :
    PE X (.ListComp elt [⟨tg, iter, ifs, 0⟩] scope pos) (tE X.K X.mg W (mComp s (own.map (·.2)) mg c e)) := PE.imp (pe_lc hc hN hi ok hg ht he hs) (t_comp (fun _ _ _ h => h) hb hu (fun _ _ _ h => h) fun _ _ _ h => h)
theorem s_setC [Tbl] {i : Nat} {y : Str} {py : Pos} (hc : X.calm = true) (hN : X.N.Nodup) (hy : X.N[i]? = some y) (hyl : X.env.scope.names.lookup y = some .local) (hsw : swapsWith (.ListComp elt [⟨tg, iter, ifs, 0⟩] scope pos) (some (.Name y py)) spos.line X.env = pure true)
    (ok : BlkOk X.N X.env.scope scope own) (hu : ∀ i ∈ us, i ∈ own.map (·.2)) (hb : TgS X.K g mg us) (hi : PI X tg iter (tI X.K X.mg W s))
    (hg : ∀ (s : Shared) (H : Hp) (C : Addr) (cl : List (Str × Addr)) (fp : List Addr), PG (X.blk s H scope (compEnvC scope cl C X.env) fp) tg g) (ht : ∀ (s : Shared) (H : Hp) (C : Addr) (cl : List (Str × Addr)) (fp : List Addr), PTs (X.blk s H scope (compEnvC scope cl C X.env) fp) ifs (tT X.K X.mg W0 c))
    (he : ∀ (s : Shared) (H : Hp) (C : Addr) (cl : List (Str × Addr)) (fp : List Addr), PE (X.blk s H scope (compEnvC scope cl C X.env) fp) elt (tE X.K X.mg W0 e)) (hs : ∀ x, foldedSetIterable iter X.env x = pure x := by intro _; rfl) :
    PS X (.Assign [.Name y py] (.ListComp elt [⟨tg, iter, ifs, 0⟩] scope pos) spos) (tS X.K X.mg W (mAsg (mComp s (own.map (·.2)) mg c e) (gNm i))) := PS.imp (ps_setLc hc hN hy hyl hsw hi ok hg ht he hs) (t_asg (t_comp (fun _ _ _ h => h) hb hu (fun _ _ _ h => h) fun _ _ _ h => h) (g_nm i))
end

/-! ### a def -/
def env0 (n : Nat) (ds : List D) : Env := ds.map some ++ List.replicate (n - ds.length) none
def outS (r : RS) : Rs D := match r with
  | .nx _ h => .ok .non h
  | .rt d h => .ok d h
  | .er c fs _ h => .err c fs h
  | _ => .stuck
def run (n : Nat) (b : MS) : MF := fun ds h => outS (b (env0 n ds) h)
theorem env0_ok {K : PySem.W.Frag} {w : Wd} {N : List Str} {vs : List V} {ds : List D} (r : VRs K w vs ds) : EnvR K w (L2.start N vs) (env0 N.length ds) := by
  unfold L2.start env0
  rw [r.length]
  refine ⟨by simp [r.length], fun i d e => ?_⟩
  by_cases hi : i < ds.length
  · rw [List.getElem?_append_left (by simpa using hi)] at e
    rw [List.getElem?_append_left (by simpa [r.length] using hi)]
    rw [List.getElem?_map] at e ⊢
    cases q : ds[i]? with
    | none => rw [q] at e; cases e
    | some y =>
      rw [q] at e
      cases e
      obtain ⟨x, e1, r1⟩ := r.get' q
      exact ⟨x, by rw [e1]; rfl, r1⟩
  · rw [List.getElem?_append_right (by simpa using hi), List.getElem?_replicate] at e
    split at e <;> cases e
section
variable {P : Program} {wd : World} {K : PySem.W.Frag} {mg : Str → Option Value} {base : Heap}
/-- a def by its body, where what it lets out has no context -/
theorem fnOk_of {x qual : Str} {st : Stmt} {f : Addr} {fd : FuncData} {N ps : List Str} {k : Nat} {sp : Sp} (F : Fun K x qual st f fd) (S : FnScope N ps (defScope st)) (hl : ∀ vs H Q E, sp vs H Q E → vs.length = ps.length)
    (hb : ∀ (cdv : Value) (A : Around) (outer : List PySem.Env) (s : Shared) (H : Hp) (vs : List V) (Q : VK) (E : XK), Room k (A.deeper (envOfC qual (defScope st) s.heap.objs.size f cdv)) → sp vs H Q E →
      ∃ t, PSs (cxOf (L2N.CX P wd) P wd K mg base N qual (defScope st) f cdv A outer s H E) (defBody st) t ∧ t ⟨fun _ H' => Q .non H', Q, fun _ _ => False, fun _ _ => False⟩ (L2.start N vs) H) : FnOk P wd K mg base (L2N.CX P wd) (k + 1) f fd ps sp := by
  obtain ⟨c1, c2, c3, c4, c5, c6, c7, c8, c9, rfl, l, hc⟩ := F.ex
  exact fn_of l hc S hl fun A outer s H vs Q E r z => hb c7 A outer s H vs Q E r z
theorem ok_fn [Tbl] {x qual : Str} {st : Stmt} {f : Addr} {fd : FuncData} {N ps : List Str} {k : Nat} {b : MS} (F : Fun K x qual st f fd) (S : FnScope N ps (defScope st))
    (hbody : ∀ (cdv : Value) (A : Around) (outer : List PySem.Env) (s : Shared) (H : Hp) (E : XK), Room k (A.deeper (envOfC qual (defScope st) s.heap.objs.size f cdv)) →
      PSs (cxOf (L2N.CX P wd) P wd K mg base N qual (defScope st) f cdv A outer s H E) (defBody st) (tS K gm (fun cls d _ H => E cls d H) b)) : FnOk P wd K mg base (L2N.CX P wd) (k + 1) f fd ps (spM K gm ps.length (run N.length b)) := by
  refine fnOk_of F S (fun vs H Q E h => h.1) fun cdv A outer s H vs Q E hr h => ?_
  obtain ⟨hl, w, ds, h, ok, r, p⟩ := h
  refine ⟨_, hbody cdv A outer s H E hr, w, env0 N.length ds, h, ok, env0_ok r, ?_⟩
  unfold run at p
  revert p
  cases b (env0 N.length ds) h with
  | nx e1 h1 => exact fun p σ' w' H' s ok' er' => p _ _ _ s ok' .non
  | bk e1 h1 => exact fun p => p.elim
  | ct e1 h1 => exact fun p => p.elim
  | rt e1 h1 => exact fun p => p
  | er c fs e1 h1 => exact fun p cv d σ' w' H' hc s ok' er' x => p cv d w' H' hc s ok' x
  | stuck => exact fun p => p
end
end
end Vi

set_option Elab.async false
set_option linter.all false
set_option autoImplicit false
set_option maxRecDepth 100000
set_option maxHeartbeats 2000000
namespace Vi
open PySem PySem.Spec PyProof.Rows L2
open scoped Classical
noncomputable section
/-! ### the text by places -/
/-- a def of the text as the top has left it -/
def Has (K : PySem.W.Frag) (mg : Str → Option Value) (x : Str) (st : Stmt) (ps : List Str) : Prop := ∃ f fd, Fun K x x st f fd ∧ mg x = some (.ref f) ∧ Binds K fd ps []
/-- .. and what it does -/
structure OkF [Tbl] (P : Program) (wd : World) (K : PySem.W.Frag) (mg : Str → Option Value) (base : Heap) (x : Str) (k n : Nat) (m : MF) : Prop where
  ex : ∃ f fd ps, mg x = some (.ref f) ∧ PySem.W.keepIn K (.ref f) = true ∧ Binds K fd ps [] ∧ FnOk P wd K mg base (L2N.CX P wd) k f fd ps (spM K mg n m)
section
variable {P : Program} {wd : World} {K : PySem.W.Frag} {mg : Str → Option Value} {base : Heap}
theorem OkF.mk' [Tbl] {x : Str} {st : Stmt} {N ps : List Str} {k n z : Nat} {b : MS} {m : MF} (h : Has K mg x st ps) (S : FnScope N ps (defScope st)) (hn : ps.length = n) (hN : N.length = z) (hm : m = run z b)
    (hbody : ∀ (f : Addr) (cdv : Value) (A : Around) (outer : List PySem.Env) (s : Shared) (H : Hp) (E : XK), Room k (A.deeper (envOfC x (defScope st) s.heap.objs.size f cdv)) →
      PSs (cxOf (L2N.CX P wd) P wd K mg base N x (defScope st) f cdv A outer s H E) (defBody st) (tS K mg (fun cls d _ H => E cls d H) b)) : OkF P wd K mg base x (k + 1) n m := by
  obtain ⟨f, fd, F, hf, hb⟩ := h
  subst hn hN hm
  exact ⟨f, fd, ps, hf, F.kp, hb, ok_fn F S (hbody f)⟩
theorem OkF.zero [Tbl] {x : Str} {st : Stmt} {ps : List Str} {k n : Nat} (h : Has K mg x st ps) (hn : ps.length = n) : OkF P wd K mg base x k n (fun _ _ => .stuck) := by
  obtain ⟨f, fd, F, hf, hb⟩ := h
  subst hn
  exact ⟨f, fd, ps, hf, F.kp, hb, fun vs H Q E h => h.1, fun A outer s H args us vs Q E _ _ _ _ ⟨_, _, _, _, _, _, p⟩ => p.elim⟩
theorem okfn' [Tbl] {x : Str} {st : Stmt} {f : Addr} {fd : FuncData} {N ps : List Str} {k n z : Nat} {b : MS} {m : MF} (F : Fun K x x st f fd) (S : FnScope N ps (defScope st)) (hn : ps.length = n) (hN : N.length = z) (hm : m = run z b)
    (hbody : ∀ (cdv : Value) (A : Around) (outer : List PySem.Env) (s : Shared) (H : Hp) (E : XK), Room k (A.deeper (envOfC x (defScope st) s.heap.objs.size f cdv)) →
      PSs (cxOf (L2N.CX P wd) P wd K mg base N x (defScope st) f cdv A outer s H E) (defBody st) (tS K mg (fun cls d _ H => E cls d H) b)) : FnOk P wd K mg base (L2N.CX P wd) (k + 1) f fd ps (spM K mg n m) := by
  subst hn hN hm
  exact ok_fn F S hbody
theorem has_of {h : Heap} (X : K.In h) (G : h.Ns mainGlobals mg) {x : Str} {st : Stmt} {ps : List Str} {f : Addr} {oc : Value} {od an : Option Addr} {osl : Array (Option Value)} {kV doc pm cdv ct : Value}
    (a : PySem.W.nsIn K mainGlobals x = some (some (.ref f))) (l : K.lookup f = some ⟨oc, od, .func (PySem.W.fnOf x x (defArgs st) (defBody st) (defScope st) .none kV doc pm an cdv ct), osl⟩) (c : PySem.W.codeIn K cdv x = true) (k : PySem.W.keepIn K (.ref f) = true)
    (hb : ∀ (kV doc pm : Value) (an : Option Addr) (cdv ct : Value) (us : List Value), us.length = ps.length → bindArgs (PySem.W.fnOf x x (defArgs st) (defBody st) (defScope st) .none kV doc pm an cdv ct) ⟨us, []⟩ = pure (ps.zip us)) : Has K mg x st ps :=
  ⟨f, _, fun_mk l c k, PySem.W.mg_of X G a, (fun_mk l c k).binds hb⟩
end
section
variable {X : Cx} {W : WX} {k j n : Nat} {x : Str} {p pos : Pos} {e : Expr} {es : List Expr} {m : MF} {ma : MA}
theorem e_f [Tbl] (F : OkF X.prog X.w X.K X.mg X.base x k n m) (hr : Room j X.A) (hk : k ≤ j) (tk : L2N.Takes X W) (ha : PA X (e :: es) (tA X.K X.mg W ma)) (hn : ∀ env h ds h', ma env h = .ok ds h' → ds.length = n) (hg : Gl X x) (hdb : (x == ("__debug__" : Str)) = false := by decide)
    (he : starEach (e :: es) X.env = (false, eval e X.env) :: starEach es X.env := by rfl) (hpl : (backTo pos (starEach es X.env)).any (·.1) = false := by rfl) : PE X (.Call (.Name x p) (e :: es) [] pos) (tE X.K X.mg W (mCall m ma)) := by
  obtain ⟨f, fd, ps, hm, kp, hb, F⟩ := F.ex
  exact e_call F (hr.mono hk) hm kp hb tk ha hn hg hdb he hpl
end
theorem bl_len : bootBuiltins "len" = some (.builtin "len") := by decide +kernel
theorem bl_abs : bootBuiltins "abs" = some (.builtin "abs") := by decide +kernel
theorem bl_int : bootBuiltins "int" = some (.type "int") := by decide +kernel
theorem bl_bool : bootBuiltins "bool" = some (.type "bool") := by decide +kernel
theorem bl_str : bootBuiltins "str" = some (.type "str") := by decide +kernel
theorem bl_list : bootBuiltins "list" = some (.type "list") := by decide +kernel
theorem bl_tuple : bootBuiltins "tuple" = some (.type "tuple") := by decide +kernel
theorem bl_dict : bootBuiltins "dict" = some (.type "dict") := by decide +kernel
theorem bl_all : bootBuiltins "all" = some (.builtin "all") := by decide +kernel
theorem bl_any : bootBuiltins "any" = some (.builtin "any") := by decide +kernel
theorem bl_isinstance : bootBuiltins "isinstance" = some (.builtin "isinstance") := by decide +kernel
theorem bl_sorted : bootBuiltins "sorted" = some (.builtin "sorted") := by decide +kernel
theorem bl_ord : bootBuiltins "ord" = some (.builtin "ord") := by decide +kernel
/-! ### the end -/
/-- the law's own promise, from what its body does on data -/
def spL [Tbl] (K : PySem.W.Frag) (n : Nat) (m : MF) : Sp := fun vs H Q _ => vs.length = n ∧ ∃ w ds h d h', Ok K w H h ∧ VRs K w vs ds ∧ m ds h = .ok d h' ∧ ∀ v w' H', Step w H w' H' → Ok K w' H' h' → VR K w' v d → Q v H'
theorem law_walk {l : PySem.W.OpenLaw} {k : Nat} {q : Program} {loose : List Str} {XP : (Str → Option Value) → Heap → Prop} {YP : World → Heap → Prop} {d : DefRec} {K : Params → PySem.W.Frag} {m : MF} {x : Str}
    (hn : l.most = some 63) (hdf : d.params.defaults = []) (hr : Room k callerA) (hY : ∀ (w : World) (h : Heap), YP w h → (K w.params).In h)
    (F : ∀ (_ : Tbl) (w : World) (mg : Str → Option Value) (fa : Addr) (h : Heap), (K w.params).In h → h.Ns mainGlobals mg → mg d.name = some (.ref fa) →
      ∃ fd : FuncData, (∀ (s : Shared) (u : Value), BindsTo s fd ⟨[u], []⟩ [(x, u)]) ∧ ∀ base : Heap, (K w.params).In base → base.Ns mainGlobals mg → FnOk l.prog w (K w.params) mg base (L2N.CX l.prog w) k fa fd [x] (spM (K w.params) mg 1 m))
    (hm : ∀ ns : List Int, ns.length ≤ 63 → ∃ h, m [.klst (ns.map .int)] [] = .ok (.bl true) h) : PySem.W.WalkO q loose XP YP l.row.toRowW d [] (fun f vs => PySem.call f vs) := by
  let T : Tbl := ⟨[]⟩
  refine L2.walk_of (n := 63) (k := k) (x := x) (CX := fun w => L2N.CX l.prog w) (sp := fun w => spL (K w.params) 1 m) hn (by decide) hdf hr hY (fun w mg fa h a b c => ?_) (fun w H a ns hl _ hS => ?_) fun w H s e s' z => ?_
  · obtain ⟨fd, h1, h2⟩ := F T w mg fa h a b c
    refine ⟨fd, h1, fun base b1 b2 => (h2 base b1 b2).imp fun vs H Q E ⟨hl, w', ds, h, dd, h', ok, r, e, q⟩ => ⟨hl, w', ds, h, ok, r, ?_⟩⟩
    rw [e]
    exact q
  · obtain ⟨h, e⟩ := hm ns hl
    refine ⟨rfl, ⟨H, []⟩, [.klst (ns.map .int)], [], _, _, ⟨fun _ _ e => e, rfl, fun i a c e => by simp at e, by simp, fun p m => by simp [T, Tbl.T] at m⟩, .cons (.klst hS VRs.of_ints) .nil, e, ?_⟩
    intro v w' H' _ _ r
    cases r
    rfl
  · obtain ⟨_, _, _, _, _, _, _, _, _, _, _, _, z⟩ := z
    exact z.elim
/-- .. of a text whose defs make lambdas: cs, their codes, tables, the lambdas' names -/
def unTbl (H : Hp) : Hp := fun a => match H a with
  | some (.tbl _) => none
  | o => o
theorem unTbl_sub {H : Hp} {a : Addr} {o : HO} (e : unTbl H a = some o) : H a = some o := by
  unfold unTbl at e
  split at e
  · cases e
  · exact e
theorem unTbl_of {H : Hp} {a : Addr} {o : HO} (e : H a = some o) (n : NT o) : unTbl H a = some o := by
  unfold unTbl
  split
  · next ps q => rw [e] at q; cases q; exact absurd rfl (n ps)
  · exact e
theorem law_walkT {l : PySem.W.OpenLaw} {k : Nat} {q : Program} {loose : List Str} {XP : (Str → Option Value) → Heap → Prop} {YP : World → Heap → Prop} {d : DefRec} {K : Params → PySem.W.Frag} {m : MF} {x : Str}
    (hn : l.most = some 63) (hdf : d.params.defaults = []) (hr : Room k callerA) (hY : ∀ (w : World) (h : Heap), YP w h → (K w.params).In h)
    (F : ∀ (w : World) (mean : ExcName → Option Value) (mg mb : Str → Option Value) (fa : Addr) (h : Heap), (K w.params).In h → Top q (PySem.W.looseW q loose) mean mg mb h → mg d.name = some (.ref fa) →
      ∃ (cs : List (Addr × Addr × Str)) (fd : FuncData), (∀ p ∈ cs, h.get? p.2.1 = some { cls := .none, data := .fields #[] } ∧ (K w.params).lookup p.2.1 = none ∧ PySem.W.CodeHd h p.1 p.2.1) ∧ (∀ (s : Shared) (u : Value), BindsTo s fd ⟨[u], []⟩ [(x, u)]) ∧
        ∀ base : Heap, (K w.params).In base → base.Ns mainGlobals mg → (∀ p ∈ cs, LamX.TabB base mg p.1 p.2.1) → FnOk l.prog w (K w.params) mg base (L2N.CX l.prog w) k fa fd [x] (@spM ⟨cs.map (·.2)⟩ (K w.params) mg 1 m))
    (hm : ∀ ns : List Int, ns.length ≤ 63 → ∃ h, m [.klst (ns.map .int)] [] = .ok (.bl true) h) : PySem.W.WalkO q loose XP YP l.row.toRowW d [] (fun f vs => PySem.call f vs) := by
  refine Att.attach_callB hn hdf fun w s₀ s₁ mg mb fa o pm cd doc a vs ns G Y ho hd hcd hmg hobj hints hlen hbits hg => ?_
  have KX := hY w _ Y
  obtain ⟨cs, fd, hf, hb, hF⟩ := F w _ mg mb fa _ KX G.T hmg
  let T : Tbl := ⟨cs.map (·.2)⟩
  have two : ∀ p ∈ cs.map (fun p => (p.1, p.2.1)), ∃ q, (p.1, p.2, q) ∈ cs := fun p m => by
    obtain ⟨r, hr, rfl⟩ := List.mem_map.mp m
    exact ⟨r.2.2, hr⟩
  refine LamX.law_callTs (CX := L2N.CX l.prog w) (cs := cs.map fun p => (p.1, p.2.1)) (sp := spL (K w.params) 1 m) (x := x) (ns := ns) KX G.T.g G.T.b G.T.builtins G.T.nolimit hg (fun p m => ?_) (fun p m => ?_) (fun p m => ?_) G.T.bmain hobj hints (Nat.le_trans hlen (by decide)) hr (fun base b1 b2 b3 => ?_) hb (fun H hT hS => ?_) fun H e s' z => ?_
  · obtain ⟨q, m⟩ := two p m; exact (hf _ m).1
  · obtain ⟨q, m⟩ := two p m; exact (hf _ m).2.1
  · obtain ⟨q, m⟩ := two p m; exact (hf _ m).2.2
  · refine (hF base b1 b2 fun p m => b3 (p.1, p.2.1) (List.mem_map.mpr ⟨p, m, rfl⟩)).imp fun vs H Q E ⟨hl, w', ds, h, dd, h', ok, r, e, q⟩ => ⟨hl, w', ds, h, ok, r, ?_⟩
    rw [e]
    exact q
  · obtain ⟨h, e⟩ := hm ns hlen
    have hS' : SqL (K w.params) (unTbl H) a (ns.map V.int) := by
      rcases hS with (z | ⟨o, z⟩) | z
      · exact .inl (.inl (unTbl_of z fun _ z => nomatch z))
      · exact .inl (.inr ⟨o, unTbl_of z fun _ z => nomatch z⟩)
      · exact .inr z
    refine ⟨rfl, ⟨unTbl H, []⟩, [.klst (ns.map .int)], [], _, _, ⟨fun _ _ e => unTbl_sub e, rfl, fun i a c e => by simp at e, by simp, fun p m => ?_⟩, .cons (.klst hS' VRs.of_ints) .nil, e, ?_⟩
    · have m : p ∈ cs.map (·.2) := m
      obtain ⟨r, hr, rfl⟩ := List.mem_map.mp m
      have z := hT (r.1, r.2.1) (List.mem_map.mpr ⟨r, hr, rfl⟩)
      have z : H r.2.1 = some (.tbl #[]) := z
      refine ⟨by show unTbl H r.2.1 = none; unfold unTbl; rw [z], #[], z, True.intro, fun pos cv hc => ?_⟩
      have hc : PySem.codeAmong pos [] = some cv := hc
      simp [PySem.codeAmong] at hc
    intro v w' H' _ _ r
    cases r
    rfl
  · obtain ⟨_, _, _, _, _, _, _, _, _, _, _, _, z⟩ := z
    exact z.elim
end
end Vi

set_option Elab.async false
set_option linter.all false
set_option autoImplicit false
set_option maxRecDepth 100000
set_option maxHeartbeats 2000000
namespace Vi
open PySem PySem.Spec PyProof.Rows L2
open scoped Classical
noncomputable section
/-! ### sorted -/
def pyd (d : D) : PyData := d.py.getD .none
/-- the order of data of one shape -/
def leD : D → D → Bool := PySem.W.dataLe false pyd
structure Srt (xs : List D) : Prop where
  py : ∀ x ∈ xs, x.py = some (pyd x)
  alike : PySem.W.AllAlike (xs.map pyd)
  able : PySem.W.Sortable (xs.map pyd)
  deep : ∀ x ∈ xs, (pyd x).depth ≤ 40
  few : xs.length ≤ sizeLine
def dSorted : List D → Hap → Option D := fun ds h => match ds with
  | [d] => (getL d h).bind fun xs => if Srt xs then some (.lst (xs.mergeSort leD)) else none
  | _ => none
def rSortD (K : PySem.W.Frag) : List V → Hp → VK → Prop := fun vs H Q => ∃ (a : Addr) (xs : List V) (ds : List D), vs = [V.ref a] ∧ SqL K H a xs ∧ xs.length = ds.length ∧ (∀ p ∈ xs.zip ds, Dp K H p.1 (pyd p.2)) ∧ PySem.W.AllAlike (ds.map pyd) ∧ PySem.W.Sortable (ds.map pyd) ∧ (∀ x ∈ ds, (pyd x).depth ≤ 40) ∧ ds.length ≤ sizeLine ∧
  ∀ p, H p = none → Q (.ref p) (upd H p (.lst (((xs.zip ds).mergeSort (PySem.W.dataLe false fun b => pyd b.2)).map Prod.fst)))
theorem each_zip : ∀ {xs : List V} {us : List Value} {ds : List D}, Vals xs us → xs.length = ds.length → PySem.W.EachIs (fun (u : Value) (b : V × D) => RelV b.1 u) us (xs.zip ds)
  | _, _, [], .nil, _ => .nil
  | _, _, _ :: _, .cons r t, h => .cons r (each_zip t (by simpa using h))
theorem vals_of_each : ∀ {us : List Value} {bs : List (V × D)}, PySem.W.EachIs (fun (u : Value) (b : V × D) => RelV b.1 u) us bs → Vals (bs.map Prod.fst) us
  | _, _, .nil => .nil
  | _, _, .cons a b => .cons a (vals_of_each b)
section
variable {X : Cx}
theorem cr_sortD (hu : X.A.units + 64 < cLine) : CallR X (.builtin "sorted") (rSortD X.K) := by
  intro pins s σ H vs us Q I r h
  obtain ⟨a, xs, ds, rfl, hs, hlen, hd, hal, hab, hdp, hfew, q⟩ := h
  obtain ⟨its, rv, hl, hz⟩ := I.list hs
  obtain ⟨u, rfl, ru⟩ := vals1 r
  obtain rfl : u = Value.ref a := ru
  have e := each_zip rv hlen
  have zs : (xs.zip ds).map Prod.snd = ds := by rw [List.map_snd_zip]; omega
  have zm : (xs.zip ds).map (fun b => pyd b.2) = ds.map pyd := by
    conv => rhs; rw [← zs]
    rw [List.map_map]
    rfl
  refine PySem.W.sorted_data (enc := fun b : V × D => pyd b.2) hl.isList e ?_ (by rw [zm]; exact hal) (by rw [zm]; exact hab) ?_ ?_ fun out ho eo => ?_
  · have go : ∀ {us : List Value} {bs : List (V × D)}, PySem.W.EachIs (fun (u : Value) (b : V × D) => RelV b.1 u) us bs → (∀ b ∈ bs, Dp X.K H b.1 (pyd b.2)) → PySem.W.EachIs (fun v b => ∃ as, Reads s.heap v (pyd b.2) as) us bs := by
      intro us bs z
      induction z with
      | nil => exact fun _ => .nil
      | cons r t ih =>
        intro hb
        exact .cons (Dp.reads I _ _ _ (hb _ List.mem_cons_self) r) (ih fun b m => hb b (List.mem_cons_of_mem _ m))
    exact go e hd
  · rw [List.length_zip]
    omega
  · intro b hb
    have m : b.2 ∈ ds := by rw [← zs]; exact List.mem_map.mpr ⟨b, hb, rfl⟩
    have := hdp b.2 m
    omega
  · have vo := vals_of_each eo
    have hf : H (s.heap.objs.size + 1) = none := I.hok.fresh (Nat.le_succ _)
    have lz : (xs.zip ds).length ≤ sizeLine := by rw [List.length_zip]; omega
    refine ⟨.ref (s.heap.objs.size + 1), _, I.laid (t' := s.toks) (fun b o x => ?_) (Nat.le_succ _) ?_, rfl, q _ hf⟩
    · exact sortedAll_old x
    · obtain ⟨n, hn⟩ := sortedAll_at s.heap its (List.toArray out)
      exact ⟨by rw [List.length_map, List.length_mergeSort]; exact lz, out, n, vo, hn⟩
end
theorem VRs.zip_ok {K : PySem.W.Frag} {w : Wd} : ∀ {xs : List V} {ds : List D}, VRs K w xs ds → ∀ p ∈ xs.zip ds, VR K w p.1 p.2
  | _, _, .nil, _, m => by simp at m
  | _, _, .cons a b, p, m => by
    rcases List.mem_cons.mp m with rfl | m
    · exact a
    · exact VRs.zip_ok b p m
theorem vrs_of {K : PySem.W.Frag} {w : Wd} : ∀ {l : List (V × D)}, (∀ p ∈ l, VR K w p.1 p.2) → VRs K w (l.map Prod.fst) (l.map Prod.snd)
  | [], _ => .nil
  | p :: l, h => .cons (h p List.mem_cons_self) (vrs_of fun q m => h q (List.mem_cons_of_mem _ m))
theorem zip_snd {xs : List V} {ds : List D} (h : xs.length = ds.length) : (xs.zip ds).map Prod.snd = ds := by rw [List.map_snd_zip]; omega
theorem sort_vrs {K : PySem.W.Frag} {w : Wd} {xs : List V} {ds : List D} (r : VRs K w xs ds) : VRs K w (((xs.zip ds).mergeSort (PySem.W.dataLe false fun b => pyd b.2)).map Prod.fst) (ds.mergeSort leD) := by
  have e : ((xs.zip ds).mergeSort (PySem.W.dataLe false fun b => pyd b.2)).map Prod.snd = ds.mergeSort leD := by
    have z := PySem.W.sort_maps (r := PySem.W.dataLe false fun b : V × D => pyd b.2) (s := leD) Prod.snd (l := xs.zip ds) fun _ _ _ _ => rfl
    rw [z, zip_snd r.length]
  rw [← e]
  exact vrs_of fun p m => r.zip_ok p (List.mem_mergeSort.mp m)
theorem s_sorted [Tbl] {K : PySem.W.Frag} : CallS K (rSortD K) dSorted := by
  intro w H h xs ds d Q ok vr e q
  unfold dSorted at e
  split at e
  · obtain ⟨x, rfl, r⟩ := vrs1 vr
    obtain ⟨ys, e1, e2⟩ := Option.bind_eq_some_iff.mp e
    split at e2
    · next hS =>
      cases e2
      obtain ⟨p, vs, rfl, h1, r1⟩ := getL_ok ok r e1
      refine ⟨p, vs, ys, rfl, h1, r1.length, fun z m => ?_, hS.alike, hS.able, hS.deep, hS.few, fun l hl => q _ _ _ (ok.alloc hl).2 (ok.alloc hl).1 (vr_lst ok hl (sort_vrs r1))⟩
      have m2 : z.2 ∈ ys := by
        rw [← zip_snd r1.length]
        exact List.mem_map.mpr ⟨z, m, rfl⟩
      exact VR.dp ok.sub (r1.zip_ok z m) (hS.py _ m2)
    · cases e2
  · cases e
end
end Vi

set_option Elab.async false
set_option linter.all false
set_option autoImplicit false
set_option maxRecDepth 100000
set_option maxHeartbeats 2000000
namespace Vi
open PySem PySem.Spec PyProof.Rows L2
open scoped Classical
noncomputable section
variable {gm : Str → Option Value}
/-! ### a comprehension whose list is a cell -/
def mCompC (s : MI) (vs : List Nat) (g : MG) (c : MT) (e : ME) : ME := fun env h => (s env h).bind fun s h1 => (compL s.2 vs g c e env s.1 h1 []).bindN fun ys h2 => .ok (.ref h2.length) (h2 ++ [.lst ys])
/-- an object that was laid ahead becomes a cell -/
theorem Ok.adopt [Tbl] {K : PySem.W.Frag} {w : Wd} {H : Hp} {h : Hap} (ok : Ok K w H h) {p : Addr} {vs : List V} {c : Cel} (hp : H p = some (.lst vs)) (f0 : w.F p = none) (r0 : p ∉ w.ρ) {ds : List D} (hc : VRs K w vs ds) (ec : c = .lst ds := by rfl) : Ok K ⟨w.F, w.ρ ++ [p]⟩ H (h ++ [c]) := by
  subst ec
  have rm : ∀ (i : Nat) (a : Addr), w.ρ[i]? = some a → (w.ρ ++ [p])[i]? = some a := fun i a e => by
    rw [List.getElem?_append_left (List.getElem?_eq_some_iff.mp e).1]
    exact e
  refine ⟨ok.sub, by simp [ok.len], fun j a c' e1 e2 => ?_, ?_, ok.tab⟩
  · by_cases q : j < w.ρ.length
    · have e1' : (w.ρ ++ [p])[j]? = some a := e1
      rw [List.getElem?_append_left q] at e1'
      rw [List.getElem?_append_left (by rw [← ok.len]; exact q)] at e2
      exact (ok.cel j a c' e1' e2).up (w' := ⟨w.F, w.ρ ++ [p]⟩) (fun _ _ x => x) rm (fun z => z) rfl
    · have e1' : (w.ρ ++ [p])[j]? = some a := e1
      rw [List.getElem?_append_right (by omega)] at e1'
      rw [List.getElem?_append_right (by rw [← ok.len]; omega)] at e2
      have z : j - w.ρ.length = 0 := by
        have := (List.getElem?_eq_some_iff.mp e1').1
        simp at this
        omega
      rw [z] at e1'
      have z2 : j - h.length = 0 := by rw [← ok.len]; exact z
      rw [z2] at e2
      simp at e1' e2
      subst e1' e2
      exact ⟨f0, _, hp, VRs.mono' (w := w) (w' := ⟨w.F, w.ρ ++ [p]⟩) (fun _ _ x => x) rm hc⟩
  · show (w.ρ ++ [p]).Nodup
    rw [List.nodup_append]
    refine ⟨ok.nd, by simp, fun a m b m2 => ?_⟩
    rw [List.mem_singleton] at m2
    rw [m2]
    exact fun e => r0 (by rw [← e]; exact m)
theorem t_compC [Tbl] {K : PySem.W.Frag} {W : WX} {wi : TI} {s : MI} {g : TG} {mg : MG} {us vs : List Nat} {tt : TT} {te : TE} {c : MT} {e : ME} (hi : ∀ σ H Q, tI K gm W s σ H Q → wi σ H Q) (hg : TgS K g mg us) (hu : ∀ i ∈ us, i ∈ vs) (ht : ∀ σ H Q, tT K gm W0 c σ H Q → tt σ H Q) (he : ∀ σ H Q, tE K gm W0 e σ H Q → te σ H Q) :
    ∀ σ H Q, tE K gm W (mCompC s vs mg c e) σ H Q → tLc wi g tt te vs σ H Q := fun σ H Q ⟨w, env, h, ok, er, p⟩ => by
  refine hi _ _ _ ⟨w, env, h, ok, er, Post.bind p fun J s w1 H1 h1 s1 ok1 vr p1 => fun Da hD => ?_⟩
  obtain ⟨xs, gd⟩ := s
  obtain ⟨V, v0, wk⟩ := vr
  have er1 := er.mono s1
  obtain ⟨f0, r0⟩ := ok1.fresh hD
  generalize hr : compL gd vs mg c e env xs h1 [] = r at p1
  refine ⟨fun i m H => m = xs.length - i ∧ i ≤ xs.length ∧ ∃ w h acc vacc, Ok K w H h ∧ Step w1 H1 w H ∧ V w ∧ H Da = some (.lst vacc) ∧ w.F Da = none ∧ Da ∉ w.ρ ∧ VRs K w vacc acc ∧ compL gd vs mg c e env (xs.drop i) h acc = r,
    ⟨xs.length, by simp, Nat.zero_le _, w1, h1, [], [], ok1.put (fun o e => by rw [hD] at e; cases e) f0 r0, (Step.refl w1 H1).put hD, v0, upd_same, f0, r0, .nil, by simpa using hr⟩, ?_⟩
  rintro i m H2 ⟨rfl, hi, w2, h2, acc, vacc, ok2, s2, v2, d2, f2, r2, a2, hr2⟩
  have ns : r ≠ .stuck := fun z => by rw [z] at p1; exact p1
  by_cases hl : i < xs.length
  · rw [List.drop_eq_getElem_cons hl] at hr2
    unfold compL at hr2
    by_cases g0 : gd h2
    · rw [if_pos g0] at hr2
      refine .inr ⟨wk.goes w2 H2 h2 i ok2 v2 g0 hl, fun H => i + 1 ≤ xs.length ∧ ∃ w h acc vacc, Ok K w H h ∧ Step w1 H1 w H ∧ V w ∧ H Da = some (.lst vacc) ∧ w.F Da = none ∧ Da ∉ w.ρ ∧ VRs K w vacc acc ∧ compL gd vs mg c e env (xs.drop (i + 1)) h acc = r,
        fun H' z => ⟨xs.length - (i + 1), by omega, rfl, z⟩, fun y H' z => ?_⟩
      obtain ⟨w2, st2, ok2, el, e1, ry⟩ := wk.yields w2 H2 h2 i y H' ok2 v2 g0 hl z
      obtain ⟨d2, f2, r2⟩ := st2.own d2 f2 r2 fun _ z => nomatch z
      have v2 := wk.up _ _ _ _ st2 v2
      have a2 := a2.mono st2
      have s2 := s2.trans st2
      have e2 : xs[i] = el := by
        rw [List.getElem?_eq_getElem hl] at e1
        exact Option.some.inj e1
      rw [e2] at hr2
      cases q : mg el (wipeE env vs) h2 with
      | none => rw [q] at hr2; exact absurd hr2.symm ns
      | some e3 =>
        rw [q] at hr2
        have hr3 : ((c e3 h2).bindN fun t h1 => if t = true then (e e3 h1).bindN fun y h2 => if acc.length < sizeLine then compL gd vs mg c e env (xs.drop (i + 1)) h2 (acc ++ [y]) else .stuck
          else compL gd vs mg c e env (xs.drop (i + 1)) h1 acc) = r := hr2
        refine hg w2 _ h2 y el (wipe σ vs) (wipeE env vs) e3 _ ok2 ry (wipeE_env (er1.mono s2) vs) q fun σ2 er2 wp => ⟨?_, ht _ _ _ ⟨w2, e3, h2, ok2, er2, Post.bindN (f := fun t h1 => if t = true then (e e3 h1).bindN fun y h2 => if acc.length < sizeLine then compL gd vs mg c e env (xs.drop (i + 1)) h2 (acc ++ [y]) else .stuck
      else compL gd vs mg c e env (xs.drop (i + 1)) h1 acc) (δ := D) (by rw [hr3]; exact ns) fun b t w3 H3 h3 ec s3 ok3 vb => ?_⟩⟩
        · rw [wp vs hu]
          clear wp er2
          have idem : ∀ (us : List Nat) (τ : L2.St), (∀ i ∈ us, i ∈ vs) → wipe (wipe τ us) vs = wipe τ vs := by
            intro us
            induction us with
            | nil => intro τ _; rfl
            | cons u us ih =>
              intro τ hm
              show wipe ((wipe τ us).set u none) vs = _
              rw [wipe_set (hm u List.mem_cons_self), ih τ fun i m => hm i (List.mem_cons_of_mem _ m)]
          exact idem vs σ fun _ m => m
        · cases vb
          have hr4 := hr3
          rw [ec] at hr4
          have keepD : ∀ {w' : Wd} {H' : Hp} {wa : Wd} {Ha : Hp} {va : List L2.V}, Step wa Ha w' H' → Ha Da = some (.lst va) → wa.F Da = none → Da ∉ wa.ρ → H' Da = some (.lst va) ∧ w'.F Da = none ∧ Da ∉ w'.ρ := by
            intro w' H' wa Ha va st da fa ra
            refine ⟨st.keep _ _ ra (fun _ z => nomatch z) da, ?_, fun m => ?_⟩
            · cases z : w'.F Da with
              | none => rfl
              | some o =>
                rcases st.nf Da o z with z2 | z2
                · rw [fa] at z2; cases z2
                · rw [da] at z2; cases z2
            · rcases st.new Da m with z2 | z2
              · exact ra z2
              · rw [da] at z2; cases z2
          obtain ⟨d3, f3, r3⟩ := keepD s3 d2 f2 r2
          cases b with
          | false => exact ⟨hl, w3, h3, acc, vacc, ok3, s2.trans s3, wk.up _ _ _ _ s3 v2, d3, f3, r3, a2.mono s3, hr4⟩
          | true =>
            have hr5 : ((e e3 h3).bindN fun y h2 => if acc.length < sizeLine then compL gd vs mg c e env (xs.drop (i + 1)) h2 (acc ++ [y]) else .stuck) = r := hr4
            rw [if_pos rfl]
            refine he _ _ _ ⟨w3, e3, h3, ok3, er2.mono s3, Post.bindN (f := fun y h2 => if acc.length < sizeLine then compL gd vs mg c e env (xs.drop (i + 1)) h2 (acc ++ [y]) else .stuck) (δ := D) (by rw [hr5]; exact ns) fun z dz w4 H4 h4 ee s4 ok4 rz => ?_⟩
            rw [ee] at hr5
            have hr6 : (if acc.length < sizeLine then compL gd vs mg c e env (xs.drop (i + 1)) h4 (acc ++ [dz]) else .stuck) = r := hr5
            obtain ⟨d4, f4, r4⟩ := keepD s4 d3 f3 r3
            by_cases hz : acc.length < sizeLine
            · rw [if_pos hz] at hr6
              exact ⟨vacc, d4, by rw [a2.length]; exact hz, hl, w4, h4, acc ++ [dz], vacc ++ [z], ok4.put (fun o e => by rw [d4] at e; cases e; exact fun _ z => nomatch z) f4 r4, ((s2.trans s3).trans s4).put hD, wk.up _ _ _ _ s4 (wk.up _ _ _ _ s3 v2), upd_same, f4, r4, VRs.append ((a2.mono s3).mono s4) (.cons rz .nil), hr6⟩
            · rw [if_neg hz] at hr6
              exact absurd hr6.symm ns
    · rw [if_neg g0] at hr2
      exact absurd hr2.symm ns
  · have ei : i = xs.length := by omega
    subst ei
    rw [List.drop_length] at hr2
    unfold compL at hr2
    by_cases g0 : gd h2
    · rw [if_pos g0] at hr2
      refine .inl ⟨wk.stops w2 H2 h2 ok2 v2 g0, ?_⟩
      rw [← hr2] at p1
      have q2 := ok2.adopt (c := .lst acc) d2 f2 r2 a2
      refine p1 (.ref Da) ⟨w2.F, w2.ρ ++ [Da]⟩ H2 ⟨s2.f, ?_, s2.keep, s2.dom, fun a m => ?_, s2.nf⟩ q2 (.ref ?_)
      · obtain ⟨t, e⟩ := s2.r
        exact ⟨t ++ [Da], by rw [e, List.append_assoc]⟩
      · rcases List.mem_append.mp m with m | m
        · exact s2.new a m
        · rw [List.mem_singleton] at m
          rw [m]
          exact .inr hD
      · show (w2.ρ ++ [Da])[h2.length]? = some Da
        rw [← ok2.len, List.getElem?_append_right (Nat.le_refl _), Nat.sub_self]
        rfl
    · rw [if_neg g0] at hr2
      exact absurd hr2.symm ns
section
variable {X : Cx} {W : WX} {elt tg iter : Expr} {ifs : List Expr} {scope : Scope} {own : List (Str × Nat)} {pos spos : Pos} {s : MI} {g : TG} {mg : MG} {us : List Nat} {c : MT} {e : ME}
theorem e_compC [Tbl] (hc : X.calm = true) (hN : X.N.Nodup) (ok : BlkOk X.N X.env.scope scope own) (hu : ∀ i ∈ us, i ∈ own.map (·.2)) (hb : TgS X.K g mg us) (hi : PI X tg iter (tI X.K X.mg W s))
    (hg : ∀ (s : Shared) (H : Hp) (C : Addr) (cl : List (Str × Addr)) (fp : List Addr), PG (X.blk s H scope (compEnvC scope cl C X.env) fp) tg g) (ht : ∀ (s : Shared) (H : Hp) (C : Addr) (cl : List (Str × Addr)) (fp : List Addr), PTs (X.blk s H scope (compEnvC scope cl C X.env) fp) ifs (tT X.K X.mg W0 c))
    (he : ∀ (s : Shared) (H : Hp) (C : Addr) (cl : List (Str × Addr)) (fp : List Addr), PE (X.blk s H scope (compEnvC scope cl C X.env) fp) elt (tE X.K X.mg W0 e)) (hs : ∀ x, foldedSetIterable iter X.env x = pure x := by intro _; rfl) :
    PE X (.ListComp elt [⟨tg, iter, ifs, 0⟩] scope pos) (tE X.K X.mg W (mCompC s (own.map (·.2)) mg c e)) := PE.imp (pe_lc hc hN hi ok hg ht he hs) (t_compC (fun _ _ _ h => h) hb hu (fun _ _ _ h => h) fun _ _ _ h => h)
theorem s_setCC [Tbl] {i : Nat} {y : Str} {py : Pos} (hc : X.calm = true) (hN : X.N.Nodup) (hy : X.N[i]? = some y) (hyl : X.env.scope.names.lookup y = some .local) (hsw : swapsWith (.ListComp elt [⟨tg, iter, ifs, 0⟩] scope pos) (some (.Name y py)) spos.line X.env = pure true)
    (ok : BlkOk X.N X.env.scope scope own) (hu : ∀ i ∈ us, i ∈ own.map (·.2)) (hb : TgS X.K g mg us) (hi : PI X tg iter (tI X.K X.mg W s))
    (hg : ∀ (s : Shared) (H : Hp) (C : Addr) (cl : List (Str × Addr)) (fp : List Addr), PG (X.blk s H scope (compEnvC scope cl C X.env) fp) tg g) (ht : ∀ (s : Shared) (H : Hp) (C : Addr) (cl : List (Str × Addr)) (fp : List Addr), PTs (X.blk s H scope (compEnvC scope cl C X.env) fp) ifs (tT X.K X.mg W0 c))
    (he : ∀ (s : Shared) (H : Hp) (C : Addr) (cl : List (Str × Addr)) (fp : List Addr), PE (X.blk s H scope (compEnvC scope cl C X.env) fp) elt (tE X.K X.mg W0 e)) (hs : ∀ x, foldedSetIterable iter X.env x = pure x := by intro _; rfl) :
    PS X (.Assign [.Name y py] (.ListComp elt [⟨tg, iter, ifs, 0⟩] scope pos) spos) (tS X.K X.mg W (mAsg (mCompC s (own.map (·.2)) mg c e) (gNm i))) := PS.imp (ps_setLc hc hN hy hyl hsw hi ok hg ht he hs) (t_asg (t_compC (fun _ _ _ h => h) hb hu (fun _ _ _ h => h) fun _ _ _ h => h) (g_nm i))
end
/-! ### a comprehension within a comprehension -/
theorem blkOk_in {N : List Str} {scope sc2 scf : Scope} {own : List (Str × Nat)} {cl : List (Str × Addr)} {C : Addr} {env : PySem.Env} (he : env.scope = scf) (h : blkC N (relS scope scf) sc2 own = true) : BlkOk N (compEnvC scope cl C env).scope sc2 own := by
  subst he
  exact blkOk_by h
/-! ### xs.insert(i, y), xs a cell -/
def rInsert : V → List V → Hp → VK → Prop := fun x vs H Q => ∃ (l : Addr) (xs : List V) (i : Int) (y : V), x = .ref l ∧ vs = [.int i, y] ∧ H l = some (.lst xs) ∧ xs.length < sizeLine ∧ 0 ≤ i ∧ i < 2 ^ 63 ∧
    Q .non (upd H l (.lst (xs.take i.toNat ++ [y] ++ xs.drop i.toNat)))
def gInsert : D → List D → Hap → Rs D := fun a ds h => match a, ds with
  | .ref i, [.int j, y] => match h[i]? with
    | some (.lst xs) => if xs.length < sizeLine ∧ 0 ≤ j ∧ j < 2 ^ 63 then .ok .non (h.set i (.lst (xs.take j.toNat ++ [y] ++ xs.drop j.toNat))) else .stuck
    | _ => .stuck
  | _, _ => .stuck
theorem s_insert [Tbl] {K : PySem.W.Frag} : MetS K gm rInsert gInsert := by
  intro w H h x xs a ds Q E ok r1 r2 p
  unfold gInsert at p
  split at p
  · next i j y =>
    split at p
    · next zs e1 =>
      split at p
      · next hl =>
        obtain ⟨v0, v, rfl, r0, r3⟩ := vrs2 r2
        cases r0
        cases r1
        next a e2 =>
        obtain ⟨_, o, e3, e4⟩ := ok.cel i a _ e2 e1
        cases o <;> simp [CRel] at e4
        next vs =>
        have q := ok.write (hn := by rw [e1]; exact fun _ z => nomatch z) (o := .lst (vs.take j.toNat ++ [v] ++ vs.drop j.toNat)) (c := .lst (zs.take j.toNat ++ [y] ++ zs.drop j.toNat)) e2 (VRs.append (VRs.append (VRs.take _ e4) (.cons r3 .nil)) (VRs.drop _ e4))
        exact ⟨a, vs, j, v, rfl, rfl, e3, by rw [e4.length]; exact hl.1, hl.2.1, hl.2.2, p _ _ _ q.2 q.1 .non⟩
      · exact p.elim
    · exact p.elim
  · exact p.elim
end
end Vi

set_option Elab.async false
set_option linter.all false
set_option autoImplicit false
set_option maxRecDepth 100000
set_option maxHeartbeats 2000000
namespace Vi
open PySem PySem.Spec PyProof.Rows L2
open scoped Classical
noncomputable section
/-! ### what is not reached -/
def mStuck : ME := fun _ _ => .stuck
section
variable {X : Cx} {W : WX}
theorem e_stuck [Tbl] {e : Expr} : PE X e (tE X.K X.mg W mStuck) := ⟨fun pins s σ H Q I h => by
  obtain ⟨w, env, hh, ok, er, p⟩ := h
  exact p.elim⟩
def mStuckT : MT := fun _ _ => .stuck
theorem c_stuck [Tbl] {e : Expr} : PT X e (tT X.K X.mg W mStuckT) := ⟨fun pins s σ H Q I h => by
  obtain ⟨w, env, hh, ok, er, p⟩ := h
  exact p.elim⟩
/-! ### f() -/
theorem e_f0 [Tbl] {k j : Nat} {x : Str} {p pos : Pos} {m : MF} (F : OkF X.prog X.w X.K X.mg X.base x k 0 m) (hr : Room j X.A) (hk : k ≤ j) (tk : L2N.Takes X W) (hg : Gl X x) (hdb : (x == ("__debug__" : Str)) = false := by decide) : PE X (.Call (.Name x p) [] [] pos) (tE X.K X.mg W (mCall m mNil)) := by
  obtain ⟨f, fd, ps, hm, kp, hb, F⟩ := F.ex
  refine ⟨fun pins s σ H Q I h => ?_⟩
  refine wpAny_Call_Name_kw (ld_glob I hg hm ?_ hdb)
  obtain ⟨w, env, h, ok, er, q⟩ := h
  exact PySem.W.callWith_K0 I.kIn kp (run_fnS (E := WE W) (vs := []) (us := []) F (hr.mono hk) hb (L2N.passAt tk σ) I .nil ⟨rfl, w, [], h, ok, .nil, q⟩)
/-! ### a tuple of texts of the module -/
def KTup (K : PySem.W.Frag) (a : Addr) (xs : List V) : Prop := ∃ (o : Obj) (its : Array Value) (n : Nat), K.lookup a = some o ∧ o.cls = .type "tuple" ∧ o.data = .seq its n ∧ its.size ≤ sizeLine ∧ Vals xs its.toList
theorem e_gtup [Tbl] {x : Str} {xs : List Str} {pos : Pos} (hm : ∃ a, X.mg x = some (.ref a) ∧ KTup X.K a (xs.map .str)) (hg : Gl X x) (hd : (x == ("__debug__" : Str)) = false := by decide) : PE X (.Name x pos) (tE X.K X.mg W (mC (.tup (xs.map .str)))) := by
  obtain ⟨a, hm, kt⟩ := hm
  exact e_c (v := .ref a) (pe_glob hg hm rfl hd) fun _ => .tup (.inr kt) VRs.of_strs
end
theorem ktup_of {K : PySem.W.Frag} {mg : Str → Option Value} {h : Heap} (X : K.In h) (G : h.Ns mainGlobals mg) {x : Str} {a : Addr} {d : Option Addr} {its : Array Value} {n : Nat} {sl : Array (Option Value)} {vs : List V} (q : PySem.W.nsIn K mainGlobals x = some (some (.ref a)))
    (l : K.lookup a = some ⟨.type "tuple", d, .seq its n, sl⟩) (hz : its.size ≤ sizeLine) (hv : Vals vs its.toList) : ∃ a, mg x = some (.ref a) ∧ KTup K a vs := ⟨a, PySem.W.mg_of X G q, _, its, n, l, rfl, rfl, hz, hv⟩
/-! ### str(i) -/
def dStr : List D → Hap → Option D := fun ds _ => match ds with
  | [.int i] => if i.natAbs.log2 < 1920 then some (.str (toString i)) else none
  | _ => none
theorem s_str [Tbl] {K : PySem.W.Frag} : CallS K (fun xs H Q => ∃ i, xs = [.int i] ∧ i.natAbs.log2 < 1920 ∧ Q (.str (toString i)) H) dStr := by
  intro w H h xs ds d Q ok vr e q
  unfold dStr at e
  split at e
  · obtain ⟨x, rfl, r⟩ := vrs1 vr
    cases r
    split at e
    · next hl => cases e; exact ⟨_, rfl, hl, q _ _ _ (Step.refl _ _) ok (.str _)⟩
    · cases e
  · cases e
end
end Vi

set_option Elab.async false
set_option linter.all false
set_option autoImplicit false
set_option maxRecDepth 100000
set_option maxHeartbeats 2000000
namespace Vi
open PySem PySem.Spec PyProof.Rows L2
open scoped Classical
noncomputable section
variable {gm : Str → Option Value}
/-! ### a dict of texts of the module: x in NAME, x not in NAME, NAME[x] -/
def kvGet : List (Str × Str) → Str → Option Str
  | [], _ => none
  | (k, v) :: r, z => if k = z then some v else kvGet r z
structure KDt (K : PySem.W.Frag) (w : World) (a : Addr) (kvs : List (Str × Str)) : Prop where
  kd : ∃ es n, KDict K w a es n
  some_ : ∀ z v, kvGet kvs z = some v → ∃ t, PySem.W.nsIn K a z = some (some (.str v t))
  none_ : ∀ z, kvGet kvs z = none → PySem.W.nsIn K a z = some none
def dKIn (kvs : List (Str × Str)) : D → Hap → Option D := fun a _ => match a with
  | .str z => some (.bl (kvGet kvs z).isSome)
  | _ => none
def dKNot (kvs : List (Str × Str)) : D → Hap → Option D := fun a _ => match a with
  | .str z => some (.bl (!(kvGet kvs z).isSome))
  | _ => none
def dKIx (kvs : List (Str × Str)) : D → Hap → Option D := fun a _ => match a with
  | .str z => (kvGet kvs z).map .str
  | _ => none
section
variable {X : Cx} {W : WX} {A : Addr} {kvs : List (Str × Str)} {x : Str} {e : Expr} {m : ME} {p pos : Pos}
theorem KDt.is (T : KDt X.K X.w A kvs) (z : Str) : ∃ r, PySem.W.nsIn X.K A z = some r ∧ r.isSome = (kvGet kvs z).isSome := by
  cases q : kvGet kvs z with
  | none => exact ⟨none, T.none_ z q, rfl⟩
  | some v =>
    obtain ⟨t, h⟩ := T.some_ z v q
    exact ⟨_, h, rfl⟩
theorem t_opR [Tbl] {K : PySem.W.Frag} {r : R2} {g : D → Hap → Option D} {a : ME} {v : V} (s : ∀ (w : Wd) (H : Hp) (h : Hap) (x : V) (d0 d : D) (Q : VK), Ok K w H h → VR K w x d0 → g d0 h = some d → (∀ v w' H', Step w H w' H' → Ok K w' H' h → VR K w' v d → Q v H') → r x v H Q) :
    ∀ σ H Q, tE K gm W (mUn g a) σ H Q → tOp r (tE K gm W a) (tC v) σ H Q := fun σ H Q ⟨w, env, h, ok, er, p⟩ =>
  ⟨w, env, h, ok, er, Post.bind p fun x da w1 H1 h1 s1 ok1 v1 p1 => by
    obtain ⟨d, e, q⟩ := ofO_post p1
    exact s w1 H1 h1 x da d Q ok1 v1 e q⟩
theorem t_opL [Tbl] {K : PySem.W.Frag} {r : R2} {g : D → Hap → Option D} {a : ME} {v : V} (s : ∀ (w : Wd) (H : Hp) (h : Hap) (x : V) (d0 d : D) (Q : VK), Ok K w H h → VR K w x d0 → g d0 h = some d → (∀ v w' H', Step w H w' H' → Ok K w' H' h → VR K w' v d → Q v H') → r v x H Q) :
    ∀ σ H Q, tE K gm W (mUn g a) σ H Q → tOp r (tC v) (tE K gm W a) σ H Q := fun σ H Q ⟨w, env, h, ok, er, p⟩ =>
  ⟨w, env, h, ok, er, Post.bind p fun x da w1 H1 h1 s1 ok1 v1 p1 => by
    obtain ⟨d, e, q⟩ := ofO_post p1
    exact s w1 H1 h1 x da d Q ok1 v1 e q⟩
theorem e_kin [Tbl] (hm : ∃ a, X.mg x = some (.ref a) ∧ KDt X.K X.w a kvs) (hg : Gl X x) (he : PE X e (tE X.K X.mg W m)) (hmk : behindInMarks .In (.Name x p) = false := by rfl) (hd : (x == ("__debug__" : Str)) = false := by decide) : PE X (.Compare e [.In] [.Name x p] pos) (tE X.K X.mg W (mUn (dKIn kvs) m)) := by
  obtain ⟨a, hm, T⟩ := hm
  obtain ⟨es, n, kd⟩ := T.kd
  refine PE.imp (pe_cmpR (op_in_kd kd) he (pe_glob (v := .ref a) hg hm rfl hd) hmk) (t_opR fun w H h x d0 d Q ok vr e q => ?_)
  unfold dKIn at e
  split at e <;> cases e
  next z =>
  cases vr
  obtain ⟨r, h1, h2⟩ := T.is z
  exact ⟨z, r, rfl, rfl, h1, by rw [h2]; exact q _ _ _ (Step.refl _ _) ok (.bl _)⟩
theorem e_kni [Tbl] (hm : ∃ a, X.mg x = some (.ref a) ∧ KDt X.K X.w a kvs) (hg : Gl X x) (he : PE X e (tE X.K X.mg W m)) (hmk : behindInMarks .NotIn (.Name x p) = false := by rfl) (hd : (x == ("__debug__" : Str)) = false := by decide) : PE X (.Compare e [.NotIn] [.Name x p] pos) (tE X.K X.mg W (mUn (dKNot kvs) m)) := by
  obtain ⟨a, hm, T⟩ := hm
  obtain ⟨es, n, kd⟩ := T.kd
  refine PE.imp (pe_cmpR (op_notIn_kd kd) he (pe_glob (v := .ref a) hg hm rfl hd) hmk) (t_opR fun w H h x d0 d Q ok vr e q => ?_)
  unfold dKNot at e
  split at e <;> cases e
  next z =>
  cases vr
  obtain ⟨r, h1, h2⟩ := T.is z
  exact ⟨z, r, rfl, rfl, h1, by rw [h2]; exact q _ _ _ (Step.refl _ _) ok (.bl _)⟩
theorem c_kin [Tbl] (hm : ∃ a, X.mg x = some (.ref a) ∧ KDt X.K X.w a kvs) (hg : Gl X x) (he : PE X e (tE X.K X.mg W m)) (hmk : behindInMarks .In (.Name x p) = false := by rfl) (hd : (x == ("__debug__" : Str)) = false := by decide) : PT X (.Compare e [.In] [.Name x p] pos) (tT X.K X.mg W (mTst (mUn (dKIn kvs) m))) := by
  obtain ⟨a, hm, T⟩ := hm
  obtain ⟨es, n, kd⟩ := T.kd
  refine PT.imp (pt_cmpR (op_in_kd kd) he (pe_glob (v := .ref a) hg hm rfl hd) hmk) (t_tst (t_opR fun w H h x d0 d Q ok vr e q => ?_))
  unfold dKIn at e
  split at e <;> cases e
  next z =>
  cases vr
  obtain ⟨r, h1, h2⟩ := T.is z
  exact ⟨z, r, rfl, rfl, h1, by rw [h2]; exact q _ _ _ (Step.refl _ _) ok (.bl _)⟩
theorem c_kni [Tbl] (hm : ∃ a, X.mg x = some (.ref a) ∧ KDt X.K X.w a kvs) (hg : Gl X x) (he : PE X e (tE X.K X.mg W m)) (hmk : behindInMarks .NotIn (.Name x p) = false := by rfl) (hd : (x == ("__debug__" : Str)) = false := by decide) : PT X (.Compare e [.NotIn] [.Name x p] pos) (tT X.K X.mg W (mTst (mUn (dKNot kvs) m))) := by
  obtain ⟨a, hm, T⟩ := hm
  obtain ⟨es, n, kd⟩ := T.kd
  refine PT.imp (pt_cmpR (op_notIn_kd kd) he (pe_glob (v := .ref a) hg hm rfl hd) hmk) (t_tst (t_opR fun w H h x d0 d Q ok vr e q => ?_))
  unfold dKNot at e
  split at e <;> cases e
  next z =>
  cases vr
  obtain ⟨r, h1, h2⟩ := T.is z
  exact ⟨z, r, rfl, rfl, h1, by rw [h2]; exact q _ _ _ (Step.refl _ _) ok (.bl _)⟩
theorem e_kix [Tbl] (hm : ∃ a, X.mg x = some (.ref a) ∧ KDt X.K X.w a kvs) (hg : Gl X x) (he : PE X e (tE X.K X.mg W m)) (hs : PlainIx e) (hd : (x == ("__debug__" : Str)) = false := by decide) : PE X (.Subscript (.Name x p) e pos) (tE X.K X.mg W (mUn (dKIx kvs) m)) := by
  obtain ⟨a, hm, T⟩ := hm
  obtain ⟨es, n, kd⟩ := T.kd
  refine PE.imp (pe_ix ix_kdict (pe_glob (v := .ref a) hg hm rfl hd) he hs) (t_opL fun w H h x d0 d Q ok vr e q => ?_)
  unfold dKIx at e
  split at e
  · next z =>
    obtain ⟨v, h1, rfl⟩ := Option.map_eq_some_iff.mp e
    cases vr
    obtain ⟨t, h2⟩ := T.some_ z v h1
    exact ⟨a, z, .str v, rfl, rfl, ⟨es, n, _, kd.at_, kd.lit, h2, t, rfl⟩, q _ _ _ (Step.refl _ _) ok (.str _)⟩
  · cases e
end
theorem kvGet_none : ∀ {kvs : List (Str × Str)} {z : Str}, kvGet kvs z = none → ∀ p ∈ kvs, p.1 ≠ z
  | [], _, _ => by simp
  | (k, v) :: r, z, h => by
    rw [kvGet] at h
    split at h
    · cases h
    · next hk =>
      intro p m
      rcases List.mem_cons.mp m with rfl | m
      · exact hk
      · exact kvGet_none h p m
theorem kvGet_some : ∀ {kvs : List (Str × Str)} {z v : Str}, kvGet kvs z = some v → (z, v) ∈ kvs
  | [], _, _, h => by cases h
  | (k, w) :: r, z, v, h => by
    rw [kvGet] at h
    split at h
    · next hk =>
      cases h
      rw [hk]
      exact List.mem_cons_self
    · exact List.mem_cons_of_mem _ (kvGet_some h)
theorem kdt_of {K : PySem.W.Frag} {w : World} {a : Addr} {kvs : List (Str × Str)} (h : He.dicW K a = some (He.keysIn w.params (kvs.map Prod.fst))) (hv : ∀ p ∈ kvs, ∃ t, PySem.W.nsIn K a p.1 = some (some (.str p.2 t))) : KDt K w a kvs := by
  obtain ⟨es, n, kd⟩ := He.dicW_ok h
  refine ⟨⟨es, n, kd⟩, fun z v e => hv _ (kvGet_some e), fun z e => ?_⟩
  have hk := kvGet_none e
  unfold He.dicW at h
  rw [kd.at_] at h
  have h1 : es.toList.map He.keyOf = He.keysIn w.params (kvs.map Prod.fst) := by
    simp only [] at h
    split at h
    · exact Option.some.inj h
    · cases h
  have key : ∀ e ∈ es.toList, ∃ p ∈ kvs, ∃ t, e.key = .str p.1 t := by
    intro e m
    have m2 : He.keyOf e ∈ He.keysIn w.params (kvs.map Prod.fst) := by
      rw [← h1]
      exact List.mem_map.mpr ⟨e, m, rfl⟩
    obtain ⟨k, mk, ek⟩ := List.mem_map.mp m2
    obtain ⟨p, mp, rfl⟩ := List.mem_map.mp mk
    unfold He.keyOf at ek
    split at ek
    · next x t q =>
      have e4 := Option.some.inj ek
      have e5 := (Prod.mk.inj e4).1
      exact ⟨p, mp, t, by rw [q, e5]⟩
    · cases ek
  unfold PySem.W.nsIn
  rw [kd.at_]
  have f1 : es.toList.find? (·.key.isStr z) = none := List.find?_eq_none.mpr fun e m => by
    obtain ⟨p, mp, t, ek⟩ := key e m
    rw [ek]
    have := hk p mp
    simpa [Value.isStr] using this
  have f2 : es.toList.any (·.refKey) = false := List.any_eq_false.mpr fun e m => by
    obtain ⟨p, mp, t, ek⟩ := key e m
    unfold DictEntry.refKey
    rw [ek]
    exact fun z => nomatch z
  simp only [f1, f2]
  rfl
end
end Vi

set_option Elab.async false
set_option linter.all false
set_option autoImplicit false
set_option maxRecDepth 100000
set_option maxHeartbeats 2000000
namespace Vi
open PySem PySem.Spec PyProof.Rows L2
open scoped Classical
noncomputable section
variable {gm : Str → Option Value}
/-! ### exceptions: nothing is let out -/
theorem none_out {X : Cx} : L2N.Takes X W0 := fun u s' ⟨_, _, _, _, _, _, _, _, _, _, _, _, _, _, _, _, z⟩ => z.elim
/-! ### raise C() -/
abbrev veMro : List Value := [.type "ValueError", .type "Exception", .type "BaseException", .type "object"]
/-- an own exception class without an own __init__ -/
structure ExK (K : PySem.W.Frag) (C : Addr) : Prop where
  x : PySem.W.excIn K C veMro "ValueError.__new__" = true
  k : PySem.W.keepIn K (.ref C) = true
  b : PySem.W.subIn K (.ref C) (.type "BaseException") = some true
  t : PySem.W.typeIn K (.ref C) = some (.type "type")
theorem pmk_zero {X : Cx} {x : Str} {C : Addr} {p pos : Pos} (e : ExK X.K C) (hm : X.mg x = some (.ref C)) (hg : Gl X x) (hd : (x == ("__debug__" : Str)) = false := by decide) : L2N.PMk X (.Call (.Name x p) [] [] pos) (fun _ H Q => Q (.ref C) none H) := fun pins s σ H Q I h => by
  refine wpAny_Call_Name_kw (ld_glob I hg hm ?_ hd)
  refine PySem.W.callWith_K0 I.kIn e.k ?_
  obtain ⟨_, _, _, _, _, _, _, _, _, _, _, _, _, _, _, _, _, hC, hN, hi, T⟩ := exc_obj I.kIn e.x
  exact wpAny_call_exc_subT PySem.F.excBase_ValueError T hC hN hi (fun _ _ mk => L2N.mk_of I mk (raises_own e.b e.t) h (I.hok.gone mk.new)) (Nat.zero_le _)
def mRaise0 (c : Str) : MS := fun env h => .er c none env h
theorem s_raise0 [Tbl] {X : Cx} {W : WX} {x : Str} {p pos pos' : Pos} (hc : X.calm = true) (tk : L2N.Takes X W) (hm : ∃ C, X.mg x = some (.ref C) ∧ ExK X.K C) (hg : Gl X x) (hd : (x == ("__debug__" : Str)) = false := by decide) :
    PS X (.Raise (some (.Call (.Name x p) [] [] pos)) none pos') (tS X.K X.mg W (mRaise0 x)) := by
  obtain ⟨C, hm, e⟩ := hm
  exact PS.imp (L2N.ps_raise hc tk (pmk_zero e hm hg hd)) fun D σ H ⟨w, env, h, ok, er, q⟩ => q (.ref C) none σ w H hm (Step.refl _ _) ok er trivial
/-! ### raise C(..), C's __init__ stores its fields -/
/-- what such an __init__ does -/
def spIni (C : Addr) (ns : List Str) : Sp := fun vs H Q _ => vs.length = ns.length + 1 ∧ ∃ a ws, vs = .ref a :: ws ∧ ws.length = ns.length ∧ H a = some (exo a C none) ∧ ∀ d, H d = none → d ≠ a → Q .non (upd (upd H d (exd d (ns.zip ws).reverse)) a (exo a C (some d)))
structure OkI (P : Program) (wd : World) (K : PySem.W.Frag) (mg : Str → Option Value) (base : Heap) (x : Str) (k : Nat) (ns : List Str) : Prop where
  ex : ∃ C fI fd ps, mg x = some (.ref C) ∧ OexC K C ∧ PySem.W.findIn K (.ref C) "__init__" = some (some (.ref fI)) ∧ PySem.W.typeIn K (.ref fI) = some (.type "function") ∧ Binds K fd ps [] ∧ FnOk P wd K mg base (L2N.CX P wd) k fI fd ps (spIni C ns)
theorem none_passes {X : Cx} : Passes (L2N.CX X.prog X.w) X E0 := fun _ _ _ _ _ _ _ z => by
  obtain ⟨_, _, _, _, _, _, _, _, _, _, _, _, z⟩ := z
  exact z.elim
theorem pmk_ini [Tbl] {X : Cx} {x : Str} {C fI : Addr} {k : Nat} {fd : FuncData} {ps : List Str} {sp : Sp} {e : Expr} {es : List Expr} {ta : TA} {p pos : Pos} (T : OexC X.K C) (iC : PySem.W.findIn X.K (.ref C) "__init__" = some (some (.ref fI)))
    (tI : PySem.W.typeIn X.K (.ref fI) = some (.type "function")) (F1 : FnOk X.prog X.w X.K X.mg X.base (L2N.CX X.prog X.w) k fI fd ps sp) (hr : Room (k + 1) X.A) (hb : Binds X.K fd ps []) (hg : Gl X x) (hm : X.mg x = some (.ref C)) (ha : PA X (e :: es) ta)
    (hd : (x == ("__debug__" : Str)) = false := by decide) (he : starEach (e :: es) X.env = (false, eval e X.env) :: starEach es X.env := by rfl) (hpl : (backTo pos (starEach es X.env)).any (·.1) = false := by rfl) :
    L2N.PMk X (.Call (.Name x p) (e :: es) [] pos) (tMkO C sp [] ta) := fun pins s σ H Q I h => by
  obtain ⟨n1, n2, n3, n4, bm, n6, n7, n8, n9, n10, n11, n12, n13, n14, n15, hC, hbm⟩ := T.cls
  refine wpAny_Call_Name_kw (ld_glob I hg hm ?_ hd)
  refine PySem.W.callWith_K (h₀ := X.base) I.ok.mod.kin T.kC (thn (ha.run pos pins s σ H _ I h) fun us s1 z => ?_) he hpl
  obtain ⟨vs, H1, I1, r1, hz, q1⟩ := z
  refine ⟨I1.kIn, ?_⟩
  show wpAny _ _ (call (.ref C) us) _ _ _
  obtain ⟨hp, g, dr, tk, os⟩ := s1
  generalize ep : (hp.push (PySem.W.kdv_tup us)).push (PySem.HandSPX.excO C hp.objs.size) = hp2
  have kk : ∀ b o, hp.get? b = some o → hp2.get? b = some o := fun b o z => by
    rw [← ep]
    exact Heap.get?_push_of_some _ (Heap.get?_push_of_some _ z)
  have hget : hp2.get? (hp.objs.size + 1) = some (PySem.HandSPX.excO C hp.objs.size) := by
    rw [← ep]
    heap_get
  have hq := q1 (hp.objs.size + 1) (I1.hok.fresh (Nat.le_succ _))
  have I2 : Inv X pins σ (upd H1 (hp.objs.size + 1) (exo (hp.objs.size + 1) C none)) ⟨hp2, g, dr, tk, os⟩ :=
    I1.laid (t' := tk) (o := exo (hp.objs.size + 1) C none) (h' := hp2) kk (Nat.le_succ _) (exo_ok hget)
  have r2 : Vals (V.ref (hp.objs.size + 1) :: (vs ++ [])) (Value.ref (hp.objs.size + 1) :: (us ++ [])) := .cons rfl (by rw [List.append_nil, List.append_nil]; exact r1)
  have hl : (Value.ref (hp.objs.size + 1) :: us ++ []).length = ps.length := by
    rw [← F1.len _ _ _ _ hq]
    exact r2.length.symm
  have hus : us.length ≤ sizeLine := by
    rw [← Paired.length r1, sizeLine_eq]
    omega
  refine wpAny_call (PySem.HandSPX.call_own F.excBase_ValueError (fun Y => PySem.HandSPX.refsVE_contains Y bm hbm) (I1.kIn _ _ hC) (PySem.W.looks_findIn I1.kIn iC) (fun self => PySem.W.bind_fn I1.kIn self tI) hus ?_)
  rw [ep]
  refine codeAny_mono (F1.run _ X.stack _ _ ⟨Value.ref (hp.objs.size + 1) :: us, []⟩ _ _ _ E0 (hr.make C us []) (I2.env0.make C us []) (hb _ (Value.ref (hp.objs.size + 1) :: us) I2.kIn hl) r2 hq) fun r s' hq' => ?_
  cases r with
  | error er => exact none_passes pins σ _ _ er s' I2 hq'
  | ok fl =>
    cases fl with
    | next => exact hq'.elim
    | brk => exact hq'.elim
    | cont => exact hq'.elim
    | ret u =>
      obtain ⟨v, H2, o2, b2, un2, k2, rv, ev, d, fs, ea, ed, hd1, q2⟩ := hq'
      subst ev
      obtain ⟨h2, g2, d2, t2, os'⟩ := s'
      obtain ⟨t0, G, J, kG, ge, hoe, na⟩ := mk_end0 (d2 := d2) (t2 := t2) I1 (Nat.le_succ _) kk un2 k2 o2 b2 ea ed hd1
      exact ⟨rv, hp.objs.size + 1, _, _, ⟨G, g2, d2, t2, os'⟩, _, .ref C, some d, rfl, J, kG, ge, hoe, ⟨rfl, rfl, fun z hz => by cases hz; rfl⟩, rfl, rfl, na, rfl, b2, raises_own T.exC T.tyC, q2⟩
def mRaiseF (c : Str) (ns : List Str) (a : MA) : MS := fun env h => RsS (a env h) env fun xs h1 => if xs.length = ns.length ∧ ns.length ≤ 1000 then .er c (some (ns.zip xs).reverse) env h1 else .stuck
theorem zip_fst {α β : Type} {ns : List α} {xs : List β} (h : xs.length = ns.length) : (ns.zip xs).map Prod.fst = ns := by rw [List.map_fst_zip]; omega
theorem zip_snd' {α β : Type} {ns : List α} {xs : List β} (h : xs.length = ns.length) : (ns.zip xs).map Prod.snd = xs := by rw [List.map_snd_zip]; omega
theorem VRs.reverse {K : PySem.W.Frag} {w : Wd} : ∀ {v : List V} {d : List D}, VRs K w v d → VRs K w v.reverse d.reverse
  | _, _, .nil => .nil
  | _, _, .cons a b => by
    rw [List.reverse_cons, List.reverse_cons]
    exact (VRs.reverse b).append (.cons a .nil)
theorem s_raiseF [Tbl] {X : Cx} {W : WX} {x : Str} {k j : Nat} {ns : List Str} {e : Expr} {es : List Expr} {ma : MA} {p pos pos' : Pos} (F : OkI X.prog X.w X.K X.mg X.base x k ns) (hr : Room j X.A) (hk : k + 1 ≤ j) (hc : X.calm = true) (tk : L2N.Takes X W) (hg : Gl X x) (ha : PA X (e :: es) (tA X.K X.mg W ma))
    (hd : (x == ("__debug__" : Str)) = false := by decide) (he : starEach (e :: es) X.env = (false, eval e X.env) :: starEach es X.env := by rfl) (hpl : (backTo pos (starEach es X.env)).any (·.1) = false := by rfl) :
    PS X (.Raise (some (.Call (.Name x p) (e :: es) [] pos)) none pos') (tS X.K X.mg W (mRaiseF x ns ma)) := by
  obtain ⟨C, fI, fd, ps, hm, T, iC, tI, hb, F1⟩ := F.ex
  refine PS.imp (L2N.ps_raise hc tk (pmk_ini T iC tI F1 (hr.mono hk) hb hg hm ha hd he hpl)) fun D σ H ⟨w, env, h, ok, er, q⟩ => ?_
  refine ⟨w, env, h, ok, er, PostS.bind er q fun v ds w1 H1 h1 s1 ok1 v1 p1 => ?_⟩
  by_cases hl : ds.length = ns.length ∧ ns.length ≤ 1000
  · rw [if_pos hl] at p1
    obtain ⟨hl, hle⟩ := hl
    have hv : v.length = ns.length := by rw [v1.length, hl]
    refine ⟨by omega, fun a ha => ⟨by simp [hv], a, v, by simp, hv, upd_same, fun d hd0 hda => ⟨rfl, d, (ns.zip v).reverse, upd_same, by rw [upd_ne hda, upd_same], by rw [upd_ne hda] at hd0; exact hd0, ?_⟩⟩⟩
    have hd1 : H1 d = none := by rw [upd_ne hda] at hd0; exact hd0
    have e : upd (del (upd (upd (upd H1 a (exo a C none)) d (exd d (ns.zip v).reverse)) a (exo a C (some d))) a) d (.xd (ns.zip v).reverse) = upd H1 d (.xd (ns.zip v).reverse) := by
      funext b
      by_cases hb : b = d
      · rw [hb, upd_same, upd_same]
      · rw [upd_ne hb, upd_ne hb]
        by_cases ha2 : b = a
        · rw [ha2, del_same, ha]
        · rw [del_ne ha2, upd_ne ha2, upd_ne hb, upd_ne ha2]
    rw [e]
    obtain ⟨f0, r0⟩ := ok1.fresh hd1
    refine p1 (.ref C) (some d) σ w1 _ hm ⟨fun _ _ z => z, ⟨[], by simp⟩, fun b o _ _ z => ?_, fun b z => ?_, fun _ m => .inl m, fun _ _ z => .inl z⟩ (ok1.put (fun o e => by rw [hd1] at e; cases e) f0 r0) (er.mono s1) ⟨_, upd_same, r0, ?_, ?_⟩
    · rw [upd_ne (ne_of_none z hd1)]
      exact z
    · by_cases hb : b = d
      · rw [hb, upd_same]
        exact fun z => nomatch z
      · rw [upd_ne hb]
        exact z
    · rw [List.map_reverse, List.map_reverse, zip_fst hv, zip_fst hl]
    · rw [List.map_reverse, List.map_reverse, zip_snd' hv, zip_snd' hl]
      exact v1.reverse
  · rw [if_neg hl] at p1
    exact p1.elim
/-! ### what a suite knows of the exception -/
section
variable {K : PySem.W.Frag} {w w' : Wd} {H H' : Hp} {h : Hap} {σ : L2.St} {d : Option Addr} {fs : Option (List (Str × D))}
theorem XR.mono (s : Step w H w' H') (x : XR K w H d fs) : XR K w' H' d fs := by
  unfold XR at x ⊢
  split at x
  · trivial
  · obtain ⟨f1, e1, e2, e3, e4⟩ := x
    refine ⟨f1, s.keep _ _ e2 (fun _ z => nomatch z) e1, fun m => ?_, e3, e4.mono s⟩
    rcases s.new _ m with z | z
    · exact e2 z
    · rw [e1] at z
      cases z
  · exact x.elim
theorem lookup_rel : ∀ {l : List (Str × V)} {l' : List (Str × D)} {f : Str} {y : D}, l.map Prod.fst = l'.map Prod.fst → VRs K w (l.map Prod.snd) (l'.map Prod.snd) → l'.lookup f = some y → ∃ v, l.lookup f = some v ∧ VR K w v y
  | [], [], _, _, _, _, e => by cases e
  | (a, v) :: l, (b, z) :: l', f, y, e1, .cons r1 r2, e => by
    have e2 : a = b := by simpa using (List.cons.inj e1).1
    subst e2
    unfold List.lookup at e ⊢
    split at e
    · next q => cases e; exact ⟨v, rfl, r1⟩
    · next q => exact lookup_rel (List.cons.inj e1).2 r2 e
end
def SE [Tbl] (K : PySem.W.Frag) (gm : Str → Option Value) (a : Addr) (d : Option Addr) (i : Nat) (fs : Option (List (Str × D))) (t : TE) (m : ME) : Prop := ∀ (w : Wd) (σ : L2.St) (H : Hp) (env : Env) (h : Hap) (Q : VK), Ok K w H h → EnvR K w σ env → σ[i]? = some (some (.ref a)) → XR K w H d fs →
  Post K gm (VR K) w H (m env h) Q (fun _ _ _ => False) → t σ H Q
def ST [Tbl] (K : PySem.W.Frag) (gm : Str → Option Value) (a : Addr) (d : Option Addr) (i : Nat) (fs : Option (List (Str × D))) (t : TT) (m : MT) : Prop := ∀ (w : Wd) (σ : L2.St) (H : Hp) (env : Env) (h : Hap) (Q : Bool → Hp → Prop), Ok K w H h → EnvR K w σ env → σ[i]? = some (some (.ref a)) → XR K w H d fs →
  Post K gm VRb w H (m env h) Q (fun _ _ _ => False) → t σ H Q
def SA [Tbl] (K : PySem.W.Frag) (gm : Str → Option Value) (a : Addr) (d : Option Addr) (i : Nat) (fs : Option (List (Str × D))) (t : TA) (m : MA) : Prop := ∀ (w : Wd) (σ : L2.St) (H : Hp) (env : Env) (h : Hap) (Q : List V → Hp → Prop), Ok K w H h → EnvR K w σ env → σ[i]? = some (some (.ref a)) → XR K w H d fs →
  Post K gm (VRs K) w H (m env h) Q (fun _ _ _ => False) → t σ H Q
def PostI [Tbl] (K : PySem.W.Frag) (w : Wd) (H : Hp) (i : Nat) (a : Addr) (r : RS) (D : Ends) : Prop := match r with
  | .nx e h => ∀ σ w' H', Step w H w' H' → Ok K w' H' h → EnvR K w' σ e → σ[i]? = some (some (.ref a)) → D.nx σ H'
  | .bk e h => ∀ σ w' H', Step w H w' H' → Ok K w' H' h → EnvR K w' σ e → σ[i]? = some (some (.ref a)) → D.bk σ H'
  | .ct e h => ∀ σ w' H', Step w H w' H' → Ok K w' H' h → EnvR K w' σ e → σ[i]? = some (some (.ref a)) → D.ct σ H'
  | .rt d h => ∀ v w' H', Step w H w' H' → Ok K w' H' h → VR K w' v d → D.rt v H'
  | _ => False
theorem PostI.step [Tbl] {K : PySem.W.Frag} {w w' : Wd} {H H' : Hp} {i : Nat} {a : Addr} {r : RS} {D : Ends} (s : Step w H w' H') (p : PostI K w H i a r D) : PostI K w' H' i a r D := by
  cases r with
  | nx e h => exact fun v w2 H2 s2 ok vr => p v w2 H2 (s.trans s2) ok vr
  | bk e h => exact fun v w2 H2 s2 ok vr => p v w2 H2 (s.trans s2) ok vr
  | ct e h => exact fun v w2 H2 s2 ok vr => p v w2 H2 (s.trans s2) ok vr
  | rt e h => exact fun v w2 H2 s2 ok vr => p v w2 H2 (s.trans s2) ok vr
  | er c fs e h => exact p
  | stuck => exact p
theorem PostI.bind [Tbl] {α β : Type} {K : PySem.W.Frag} {w : Wd} {H : Hp} {i : Nat} {a : Addr} {VA : Wd → β → α → Prop} {r : Rs α} {env : Env} {f : α → Hap → RS} {D : Ends} {Q1 : β → Hp → Prop} (p : PostI K w H i a (RsS r env f) D)
    (k : ∀ v x w' H' h', Step w H w' H' → Ok K w' H' h' → VA w' v x → PostI K w' H' i a (f x h') D → Q1 v H') : Post K gm VA w H r Q1 (fun _ _ _ => False) := by
  cases r with
  | ok x h => exact fun v w' H' s ok vr => k v x w' H' h s ok vr (PostI.step s p)
  | err c fs h => exact p.elim
  | stuck => exact p
def SS [Tbl] (K : PySem.W.Frag) (a : Addr) (d : Option Addr) (i : Nat) (fs : Option (List (Str × D))) (t : TS) (m : MS) : Prop := ∀ (w : Wd) (σ : L2.St) (H : Hp) (env : Env) (h : Hap) (D : Ends), Ok K w H h → EnvR K w σ env → σ[i]? = some (some (.ref a)) → XR K w H d fs →
  PostI K w H i a (m env h) D → t D σ H
section
variable {X : Cx} {a : Addr} {oe : Obj} {pn : List (Addr × Obj)} {d : Option Addr} {i : Nat} {fs : Option (List (Str × D))}
def SPE [Tbl] (X : Cx) (a : Addr) (oe : Obj) (pn : List (Addr × Obj)) (d : Option Addr) (i : Nat) (fs : Option (List (Str × D))) (e : Expr) (m : ME) : Prop := ∃ t, PE (X.suite a ((a, oe) :: pn)) e t ∧ SE X.K X.mg a d i fs t m
def SPT [Tbl] (X : Cx) (a : Addr) (oe : Obj) (pn : List (Addr × Obj)) (d : Option Addr) (i : Nat) (fs : Option (List (Str × D))) (e : Expr) (m : MT) : Prop := ∃ t, PT (X.suite a ((a, oe) :: pn)) e t ∧ ST X.K X.mg a d i fs t m
def SPW [Tbl] (X : Cx) (a : Addr) (oe : Obj) (pn : List (Addr × Obj)) (d : Option Addr) (i : Nat) (fs : Option (List (Str × D))) (e : Expr) (m : MT) : Prop := ∃ t, PW (X.suite a ((a, oe) :: pn)) e t ∧ ST X.K X.mg a d i fs t m
def SPA [Tbl] (X : Cx) (a : Addr) (oe : Obj) (pn : List (Addr × Obj)) (d : Option Addr) (i : Nat) (fs : Option (List (Str × D))) (e : List Expr) (m : MA) : Prop := ∃ t, PA (X.suite a ((a, oe) :: pn)) e t ∧ SA X.K X.mg a d i fs t m
def SPS [Tbl] (X : Cx) (a : Addr) (oe : Obj) (pn : List (Addr × Obj)) (d : Option Addr) (i : Nat) (fs : Option (List (Str × D))) (e : Stmt) (m : MS) : Prop := ∃ t, PS (X.suite a ((a, oe) :: pn)) e t ∧ SS X.K a d i fs t m
def SPSs [Tbl] (X : Cx) (a : Addr) (oe : Obj) (pn : List (Addr × Obj)) (d : Option Addr) (i : Nat) (fs : Option (List (Str × D))) (e : List Stmt) (m : MS) : Prop := ∃ t, PSs (X.suite a ((a, oe) :: pn)) e t ∧ SS X.K a d i fs t m
theorem sp_of [Tbl] {e : Expr} {m : ME} (h : PE (X.suite a ((a, oe) :: pn)) e (tE X.K X.mg W0 m)) : SPE X a oe pn d i fs e m := ⟨_, h, fun w σ H env h Q ok er _ _ p => ⟨w, env, h, ok, er, p⟩⟩
theorem st_of [Tbl] {e : Expr} {m : MT} (h : PT (X.suite a ((a, oe) :: pn)) e (tT X.K X.mg W0 m)) : SPT X a oe pn d i fs e m := ⟨_, h, fun w σ H env h Q ok er _ _ p => ⟨w, env, h, ok, er, p⟩⟩
theorem sa_of [Tbl] {e : List Expr} {m : MA} (h : PA (X.suite a ((a, oe) :: pn)) e (tA X.K X.mg W0 m)) : SPA X a oe pn d i fs e m := ⟨_, h, fun w σ H env h Q ok er _ _ p => ⟨w, env, h, ok, er, p⟩⟩
/-- e.f -/
def mXf (fs : Option (List (Str × D))) (f : Str) : ME := fun _ h => ofO (fs.bind fun l => l.lookup f) h
theorem sp_xf [Tbl] {C : Addr} {f nm : Str} {p pos : Pos} (T : XfC X.K C) (hno : PySem.W.findIn X.K (.ref C) f = some none) (hz : Zc (.ref C) d oe) (hf : ∃ vs, oe.data = .fields vs) (hN : X.N[i]? = some nm) (hv : Vis X.env.scope nm) (hd : (nm == ("__debug__" : Str)) = false := by decide) (hcd : (nm == ("__classdict__" : Str)) = false := by decide)
    (hb : attributeBase (.Name nm p) f X.env (eval (.Name nm p) X.env) = eval (.Name nm p) X.env := by rfl) : SPE X a oe pn d i fs (.Attribute (.Name nm p) f pos) (mXf fs f) := by
  refine ⟨_, pe_xf T hno hz hf (pe_var (X := X.suite a ((a, oe) :: pn)) hN hv hd hcd) hb, fun w σ H env h Q ok er sl xr q => ?_⟩
  obtain ⟨y, e, q0⟩ := ofO_post q
  obtain ⟨l, e1, e2⟩ := Option.bind_eq_some_iff.mp e
  subst e1
  cases d with
  | none => exact xr.elim
  | some dd =>
    obtain ⟨f1, e3, _, e4, e5⟩ := xr
    obtain ⟨v, e6, e7⟩ := lookup_rel e4 e5 e2
    exact ⟨.ref a, sl, rfl, rfl, dd, f1, v, rfl, e3, e6, q0 v w H (Step.refl _ _) ok e7⟩
/-- isinstance(e, C) -/
structure ExQ (K : PySem.W.Frag) (C : Addr) : Prop where
  c : (PySem.W.clsIn K C).isSome = true
  g : PySem.W.findIn K (.ref C) "__getattribute__" = some (some (.builtin "BaseException.__getattribute__"))
  n : PySem.W.findIn K (.ref C) "__getattr__" = some none
  s : PySem.W.subIn K (.ref C) (.type "BaseException") = some true
  a : PySem.W.findIn K (.ref C) "__class__" = some (some (.builtin "object.__class__"))
  d : PySem.W.specialIn K (.builtin "object.__class__") "__get__" = some (some (.builtin "getset_descriptor.__get__"))
  t : PySem.W.takesIn K (.builtin "object.__class__") = some true
  m : PySem.W.mroIn K C (.type "object") = some true
theorem cr_ise {C : Addr} (q : ExQ X.K C) (hz : Zc (.ref C) d oe) (hf : ∃ vs, oe.data = .fields vs) : CallR (X.suite a ((a, oe) :: pn)) (.builtin "isinstance") (fun xs H Q => (∀ dd, d = some dd → ∃ fs, H dd = some (.xd fs)) ∧ rIsE X.K C a xs H Q) := by
  intro pins s σ H xs us Q I r h
  obtain ⟨hx, c, cv, b, rfl, hcv, e, k⟩ := h
  obtain ⟨u1, u2, rfl, r1, r2⟩ := vals2 r
  cases r1
  obtain rfl := hcv _ r2
  obtain ⟨hget, _⟩ := I.pin (a, oe) (List.mem_append_left _ List.mem_cons_self)
  obtain ⟨vs, hv⟩ := hf
  have J : ∃ od, PySem.W.InstAt s.heap a oe C od := by
    cases hd : d with
    | none =>
      refine ⟨none, hget, hz.1, by unfold PySem.W.notCls; rw [hv] <;> rfl, ?_⟩
      rw [hz.2, hd]
      trivial
    | some dd =>
      obtain ⟨f1, e1⟩ := hx dd hd
      have x : ObjOk X.prog X.w H s.heap dd (.xd f1) := I.hok dd _ e1
      obtain ⟨mA, hns, _⟩ := x
      obtain ⟨od, ho, _⟩ := lookIn_ns hns
      refine ⟨some od, hget, hz.1, by unfold PySem.W.notCls; rw [hv] <;> rfl, ?_⟩
      rw [hz.2, hd]
      exact ho
  obtain ⟨od, J⟩ := J
  exact PySem.W.kia_one (PySem.W.kitx_exc q.c q.g q.n q.s q.a q.d q.t q.m) I.kIn J e (fun z => nomatch z) fun tk => ⟨.bl b, H, I.kept (t' := tk) fun _ _ z => z, rfl, k⟩
theorem sp_is [Tbl] {C : Addr} {nm : Str} {b : Bool} {p p1 pos : Pos} {e2 : Expr} {cv : Value} {c : V} (q : ExQ X.K C) (hz : Zc (.ref C) d oe) (hf : ∃ vs, oe.data = .fields vs) (hN : X.N[i]? = some nm) (hv : Vis X.env.scope nm) (h2 : PE (X.suite a ((a, oe) :: pn)) e2 (tC c)) (hcv : ∀ u, RelV c u → u = cv)
    (hk : PySem.W.kitOne X.K (.ref C) cv = some b) (hg : Gl X "isinstance") (hm : X.mg "isinstance" = none) (hd : (nm == ("__debug__" : Str)) = false := by decide) (hcd : (nm == ("__classdict__" : Str)) = false := by decide)
    (hs : starEach [.Name nm p1, e2] (X.suite a ((a, oe) :: pn)).env = (false, eval (.Name nm p1) (X.suite a ((a, oe) :: pn)).env) :: starEach [e2] (X.suite a ((a, oe) :: pn)).env := by rfl) (hs2 : starEach [e2] (X.suite a ((a, oe) :: pn)).env = (false, eval e2 (X.suite a ((a, oe) :: pn)).env) :: starEach [] (X.suite a ((a, oe) :: pn)).env := by rfl)
    (hpl : (backTo pos (starEach [e2] (X.suite a ((a, oe) :: pn)).env)).any (·.1) = false := by rfl) : SPE X a oe pn d i fs (.Call (.Name "isinstance" p) [.Name nm p1, e2] [] pos) (mC (.bl b)) := by
  refine ⟨_, pe_callB (cr_ise q hz hf) hg hm bl_isinstance (pa_cons (pe_var (X := X.suite a ((a, oe) :: pn)) hN hv hd hcd) (pa_cons h2 pa_nil hs2) hs) (by decide) (by decide) hs hpl, fun w σ H env h Q ok er sl xr q' => ?_⟩
  refine ⟨.ref a, sl, fun dd hdd => ?_, c, cv, b, rfl, hcv, hk, q' (.bl b) w H (Step.refl _ _) ok (.bl b)⟩
  subst hdd
  cases fs with
  | none => exact xr.elim
  | some l =>
    obtain ⟨f1, e3, _⟩ := xr
    exact ⟨f1, e3⟩
theorem sp_one [Tbl] {op : BoolOp} {e : Expr} {m : ME} {pos : Pos} (h : SPE X a oe pn d i fs e m) : SPE X a oe pn d i fs (.BoolOp op [e] pos) m := let ⟨t, h, s⟩ := h; ⟨t, pe_one h, s⟩
theorem sp_and [Tbl] {e e' : Expr} {rest : List Expr} {m m' : ME} {pos : Pos} (h : SPE X a oe pn d i fs e m) (h' : SPE X a oe pn d i fs (.BoolOp .And (e' :: rest) pos) m') : SPE X a oe pn d i fs (.BoolOp .And (e :: e' :: rest) pos) (mAnd m m') := by
  obtain ⟨t, h, s⟩ := h
  obtain ⟨t', h', s'⟩ := h'
  refine ⟨_, pe_and h h', fun w σ H env hh Q ok er sl xr p => s w σ H env hh _ ok er sl xr (Post.bind p fun x da w1 H1 h1 s1 ok1 v1 p1 => ?_)⟩
  cases v1 <;> try exact p1.elim
  next b =>
  refine ⟨b, rfl, ?_⟩
  cases b with
  | true => exact s' w1 σ H1 env h1 Q ok1 (er.mono s1) sl (xr.mono s1) p1
  | false => exact p1.ok ok1 (.bl false)
theorem sp_or [Tbl] {e e' : Expr} {rest : List Expr} {m m' : ME} {pos : Pos} (h : SPE X a oe pn d i fs e m) (h' : SPE X a oe pn d i fs (.BoolOp .Or (e' :: rest) pos) m') : SPE X a oe pn d i fs (.BoolOp .Or (e :: e' :: rest) pos) (mOr m m') := by
  obtain ⟨t, h, s⟩ := h
  obtain ⟨t', h', s'⟩ := h'
  refine ⟨_, pe_or h h', fun w σ H env hh Q ok er sl xr p => s w σ H env hh _ ok er sl xr (Post.bind p fun x da w1 H1 h1 s1 ok1 v1 p1 => ?_)⟩
  cases v1 <;> try exact p1.elim
  next b =>
  refine ⟨b, rfl, ?_⟩
  cases b with
  | false => exact s' w1 σ H1 env h1 Q ok1 (er.mono s1) sl (xr.mono s1) p1
  | true => exact p1.ok ok1 (.bl true)
theorem sp_not [Tbl] {e : Expr} {m : ME} {pos : Pos} (h : SPE X a oe pn d i fs e m) : SPE X a oe pn d i fs (.UnaryOp .Not e pos) (mNot m) := by
  obtain ⟨t, h, s⟩ := h
  refine ⟨_, pe_not h, fun w σ H env hh Q ok er sl xr p => s w σ H env hh _ ok er sl xr (Post.bind p fun x da w1 H1 h1 s1 ok1 v1 p1 => ?_)⟩
  cases v1 <;> try exact p1.elim
  next b => exact ⟨b, rfl, p1.ok ok1 (.bl _)⟩
theorem sa_cons [Tbl] {e : Expr} {es : List Expr} {m : ME} {r : MA} (h : SPE X a oe pn d i fs e m) (h' : SPA X a oe pn d i fs es r) (hs : starEach (e :: es) (X.suite a ((a, oe) :: pn)).env = (false, eval e (X.suite a ((a, oe) :: pn)).env) :: starEach es (X.suite a ((a, oe) :: pn)).env := by rfl) : SPA X a oe pn d i fs (e :: es) (mCons m r) := by
  obtain ⟨t, h, s⟩ := h
  obtain ⟨t', h', s'⟩ := h'
  exact ⟨_, pa_cons h h' hs, fun w σ H env hh Q ok er sl xr p => s w σ H env hh _ ok er sl xr (Post.bind p fun x da w1 H1 h1 s1 ok1 v1 p1 => s' w1 σ H1 env h1 _ ok1 (er.mono s1) sl (xr.mono s1) (Post.bind p1 fun xs ds w2 H2 h2 s2 ok2 v2 p2 => p2.ok ok2 (.cons (v1.mono s2) v2)))⟩
theorem sp_tup [Tbl] {es : List Expr} {m : MA} {k : Nat} {pos : Pos} (h : SPA X a oe pn d i fs es m) : SPE X a oe pn d i fs (.Tuple es k pos) (mTup m) := by
  obtain ⟨t, h, s⟩ := h
  refine ⟨_, pe_tup h, fun w σ H env hh Q ok er sl xr p => s w σ H env hh _ ok er sl xr (Post.bind p fun x da w1 H1 h1 s1 ok1 v1 p1 => ?_)⟩
  by_cases hl : da.length ≤ sizeLine
  · rw [if_pos hl] at p1
    exact ⟨by rw [v1.length]; exact hl, fun a ha => p1.alloc ok1 ha (vr_tup ok1 ha v1)⟩
  · rw [if_neg hl] at p1
    exact p1.elim
theorem sp_lst [Tbl] {es : List Expr} {m : MA} {pos : Pos} (h : SPA X a oe pn d i fs es m) : SPE X a oe pn d i fs (.List es pos) (mLst m) := by
  obtain ⟨t, h, s⟩ := h
  refine ⟨_, pe_lst h, fun w σ H env hh Q ok er sl xr p => s w σ H env hh _ ok er sl xr (Post.bind p fun x da w1 H1 h1 s1 ok1 v1 p1 => ?_)⟩
  by_cases hl : da.length ≤ sizeLine
  · rw [if_pos hl] at p1
    exact ⟨by rw [v1.length]; exact hl, fun a ha => p1.alloc ok1 ha (vr_lst ok1 ha v1)⟩
  · rw [if_neg hl] at p1
    exact p1.elim
theorem st_val [Tbl] {e : Expr} {m : ME} (h : SPE X a oe pn d i fs e m) (he : ∀ whole, isTrue e (X.suite a ((a, oe) :: pn)).env whole = (do let v ← whole; standAt e.pos; holding [v] (truthy v)) := by intro _; rfl) : SPT X a oe pn d i fs e (mTst m) := by
  obtain ⟨t, h, s⟩ := h
  refine ⟨_, pt_val h he, fun w σ H env hh Q ok er sl xr p => s w σ H env hh _ ok er sl xr (Post.bind p fun x da w1 H1 h1 s1 ok1 v1 p1 => ?_)⟩
  obtain ⟨b, e, q⟩ := ofO_post p1
  have e2 := oB_some e
  subst e2
  cases v1
  exact ⟨b, rfl, q b w1 H1 (Step.refl _ _) ok1 rfl⟩
theorem st_not [Tbl] {e : Expr} {m : MT} {pos : Pos} (h : SPT X a oe pn d i fs e m) : SPT X a oe pn d i fs (.UnaryOp .Not e pos) (mNotT m) := by
  obtain ⟨t, h, s⟩ := h
  refine ⟨_, pt_not h, fun w σ H env hh Q ok er sl xr p => s w σ H env hh _ ok er sl xr (Post.bind p fun x da w1 H1 h1 s1 ok1 v1 p1 => ?_)⟩
  cases v1
  exact p1 _ w1 H1 (Step.refl _ _) ok1 rfl
theorem sw_and1 [Tbl] {e : Expr} {m : MT} {pos : Pos} (h : SPT X a oe pn d i fs e m) : SPW X a oe pn d i fs (.BoolOp .And [e] pos) m := let ⟨t, h, s⟩ := h; ⟨t, pw_and1 h, s⟩
theorem sw_or1 [Tbl] {e : Expr} {m : MT} {pos : Pos} (h : SPT X a oe pn d i fs e m) : SPW X a oe pn d i fs (.BoolOp .Or [e] pos) m := let ⟨t, h, s⟩ := h; ⟨t, pw_or1 h, s⟩
theorem sw_and [Tbl] {e e' : Expr} {rest : List Expr} {m m' : MT} {pos : Pos} (h : SPT X a oe pn d i fs e m) (h' : SPW X a oe pn d i fs (.BoolOp .And (e' :: rest) pos) m') : SPW X a oe pn d i fs (.BoolOp .And (e :: e' :: rest) pos) (mAndT m m') := by
  obtain ⟨t, h, s⟩ := h
  obtain ⟨t', h', s'⟩ := h'
  refine ⟨_, pw_and h h', fun w σ H env hh Q ok er sl xr p => s w σ H env hh _ ok er sl xr (Post.bind p fun x da w1 H1 h1 s1 ok1 v1 p1 => ?_)⟩
  cases v1
  cases x with
  | true => exact s' w1 σ H1 env h1 Q ok1 (er.mono s1) sl (xr.mono s1) p1
  | false => exact p1 _ w1 H1 (Step.refl _ _) ok1 rfl
theorem sw_or [Tbl] {e e' : Expr} {rest : List Expr} {m m' : MT} {pos : Pos} (h : SPT X a oe pn d i fs e m) (h' : SPW X a oe pn d i fs (.BoolOp .Or (e' :: rest) pos) m') : SPW X a oe pn d i fs (.BoolOp .Or (e :: e' :: rest) pos) (mOrT m m') := by
  obtain ⟨t, h, s⟩ := h
  obtain ⟨t', h', s'⟩ := h'
  refine ⟨_, pw_or h h', fun w σ H env hh Q ok er sl xr p => s w σ H env hh _ ok er sl xr (Post.bind p fun x da w1 H1 h1 s1 ok1 v1 p1 => ?_)⟩
  cases v1
  cases x with
  | false => exact s' w1 σ H1 env h1 Q ok1 (er.mono s1) sl (xr.mono s1) p1
  | true => exact p1 _ w1 H1 (Step.refl _ _) ok1 rfl
theorem st_w [Tbl] {e : Expr} {m : MT} (h : SPW X a oe pn d i fs e m) : SPT X a oe pn d i fs e m := let ⟨t, h, s⟩ := h; ⟨t, PW.pt h, s⟩
/-! statements of a suite -/
theorem ss_ret [Tbl] {e : Expr} {m : ME} {pos : Pos} (h : SPE X a oe pn d i fs e m) : SPS X a oe pn d i fs (.Return (some e) pos) (mRet m) := by
  obtain ⟨t, h, s⟩ := h
  exact ⟨_, ps_ret h, fun w σ H env hh D ok er sl xr p => s w σ H env hh _ ok er sl xr (PostI.bind p fun v x w' H' h' s1 ok1 vr p' => p' v w' H' (Step.refl _ _) ok1 vr)⟩
theorem ss_if [Tbl] {c : Expr} {b1 b2 : List Stmt} {mc : MT} {m1 m2 : MS} {pos : Pos} (h : SPT X a oe pn d i fs c mc) (h1 : SPSs X a oe pn d i fs b1 m1) (h2 : SPSs X a oe pn d i fs b2 m2) : SPS X a oe pn d i fs (.If c b1 b2 pos) (mIfS mc m1 m2) := by
  obtain ⟨t, h, s⟩ := h
  obtain ⟨t1, h1, s1⟩ := h1
  obtain ⟨t2, h2, s2⟩ := h2
  refine ⟨_, ps_if h h1 h2, fun w σ H env hh D ok er sl xr p => s w σ H env hh _ ok er sl xr (PostI.bind p fun v x w' H' h' st ok1 vr p' => ?_)⟩
  cases vr
  cases v with
  | true => exact s1 w' σ H' env h' D ok1 (er.mono st) sl (xr.mono st) p'
  | false => exact s2 w' σ H' env h' D ok1 (er.mono st) sl (xr.mono st) p'
theorem ss_set [Tbl] {j : Nat} {x : Str} {e : Expr} {m : ME} {pos pos' : Pos} (hij : j ≠ i) (hN : X.N.Nodup) (hi : X.N[j]? = some x) (hx : Loc X.env.scope x) (h : SPE X a oe pn d i fs e m) (hs : swapsWith e (some (.Name x pos')) pos.line X.env = pure false := by rfl) (hf : X.fn x = true ∨ X.env.scope.names.lookup x = some .local := by first | exact .inl rfl | exact .inr rfl | assumption) :
    SPS X a oe pn d i fs (.Assign [.Name x pos'] e pos) (mAsg m (gNm j)) := by
  obtain ⟨t, h, s⟩ := h
  refine ⟨_, ps_set (X := X.suite a ((a, oe) :: pn)) hN hi hx h hs hf, fun w σ H env hh D ok er sl xr p => s w σ H env hh _ ok er sl xr (PostI.bind p fun v x w' H' h' st ok1 vr p' => ?_)⟩
  refine p' _ w' H' (Step.refl _ _) ok1 ((er.mono st).set vr j) ?_
  rw [List.getElem?_set_ne hij]
  exact sl
theorem ss_nil' [Tbl] : SPSs X a oe pn d i fs [] mNext := ⟨_, pss_nil, fun w σ H env hh D ok er sl xr p => p σ w H (Step.refl _ _) ok er sl⟩
theorem ss_one' [Tbl] {st : Stmt} {m : MS} (h : SPS X a oe pn d i fs st m) : SPSs X a oe pn d i fs [st] m := let ⟨t, h, s⟩ := h; ⟨t, pss_one h, s⟩
theorem ss_cons' [Tbl] {st : Stmt} {rest : List Stmt} {m m' : MS} (h : SPS X a oe pn d i fs st m) (h' : SPSs X a oe pn d i fs rest m') (hd : d = none ∨ True) : SPSs X a oe pn d i fs (st :: rest) (mSeq m m') := by
  obtain ⟨t, h, s⟩ := h
  obtain ⟨t', h', s'⟩ := h'
  refine ⟨_, pss_cons h h', fun w σ H env hh D ok er sl xr p => s w σ H env hh _ ok er sl xr ?_⟩
  unfold mSeq at p
  revert p
  cases m env hh with
  | nx e1 h1 => exact fun p σ' w' H' st ok' er' sl' => s' w' σ' H' e1 h1 D ok' er' sl' (xr.mono st) (PostI.step st p)
  | bk e1 h1 => exact fun p => p
  | ct e1 h1 => exact fun p => p
  | rt e1 h1 => exact fun p => p
  | er c fs e1 h1 => exact fun p => p
  | stuck => exact fun p => p
end
/-! ### try: .. except C as e: .. -/
def RS.forget (i : Nat) (r : RS) : RS := match r with
  | .nx e h => .nx (e.set i none) h
  | .bk e h => .bk (e.set i none) h
  | .ct e h => .ct (e.set i none) h
  | .rt d h => .rt d h
  | _ => .stuck
def mTryAs (cs os : List Str) (i : Nat) (b : MS) (su : Str → Option (List (Str × D)) → MS) : MS := fun env h => match b env h with
  | .er c fs e h1 => if c ∈ cs then (su c fs (e.set i none) h1).forget i else if c ∈ os then .er c fs e h1 else .stuck
  | r => r
theorem EnvR.unset {K : PySem.W.Frag} {w : Wd} {σ : L2.St} {env : Env} (er : EnvR K w σ env) (i : Nat) (z : Option V) : EnvR K w (σ.set i z) (env.set i none) := ⟨by rw [List.length_set, List.length_set]; exact er.len, fun j d' e => by
  by_cases q : i = j
  · subst q
    by_cases hl : i < env.length
    · rw [List.getElem?_set_self hl] at e
      cases e
    · rw [List.getElem?_eq_none (by rw [List.length_set]; omega)] at e
      cases e
  · rw [List.getElem?_set_ne q] at e ⊢
    exact er.get j d' e⟩
/-- which classes a clause catches, and which not -/
structure Cat (K : PySem.W.Frag) (mg : Str → Option Value) (x : Str) (cs os : List Str) : Prop where
  ex : ∃ C : Addr, mg x = some (.ref C) ∧ (∀ c ∈ cs, ∀ cv, mg c = some cv → PySem.W.exmOne K cv (.ref C) = some true) ∧ (∀ c ∈ os, ∀ cv, mg c = some cv → PySem.W.exmOne K cv (.ref C) = some false)
theorem s_tryAs [Tbl] {X : Cx} {W : WX} {x n : Str} {i : Nat} {body suite : List Stmt} {b₀ : Stmt} {np pos pos' : Pos} {mb : MS} {cs os : List Str} {su : Str → Option (List (Str × D)) → MS} (hs : X.stack = X.env :: X.outer) (hf : X.env.frame = some X.env.locals) (hN : X.N.Nodup) (hi : X.N[i]? = some n)
    (hln : X.env.kindOf n = some .local) (hg : Gl X x) (tk : L2N.Takes X W) (hcat : Cat X.K X.mg x cs os)
    (hb : ∀ (W : WX) (pn : List (Addr × Obj)) (xe : Value → Shared → Prop), L2N.Takes (X.tr pn xe) W → PassesOwn (model X.prog X.w) X.A X.env xe → PSs (X.tr pn xe) body (tS X.K X.mg W mb))
    (hsu : ∀ c ∈ cs, ∀ (cv : Value) (fs : Option (List (Str × D))) (a : Addr) (oe : Obj) (d : Option Addr) (pn : List (Addr × Obj)), X.mg c = some cv → L2N.Zn cv d oe → (∃ vs, oe.data = .fields vs) → SPSs X a oe pn d i fs (b₀ :: suite) (su c fs))
    (hd : (x == ("__debug__" : Str)) = false := by decide) :
    PS X (.Try body [.ExceptHandler (some (.Name x np)) (some n) (b₀ :: suite) pos'] [] [] pos) (tS X.K X.mg W (mTryAs cs os i mb su)) := by
  obtain ⟨C, hC, h1, h2⟩ := hcat.ex
  have hil : i < X.N.length := (List.getElem?_eq_some_iff.mp hi).1
  refine PS.imp (L2N.ps_try_as (tb := fun W => tS X.K X.mg W mb) (ts := fun a cls d D σ H => σ.length = X.N.length → ∃ w env h c fs, c ∈ cs ∧ X.mg c = some cls ∧ Ok X.K w H h ∧ EnvR X.K w σ env ∧ σ[i]? = some (some (.ref a)) ∧ XR X.K w H d fs ∧ PostI X.K w H i a (su c fs env h) D) hs hf hN hi hln ⟨hg, hd, .inl hC⟩ tk hb
    fun a oe cls d pn hz hfl => ⟨fun pins s σ H D I h => ?_⟩) fun D σ H ⟨w, env, h, ok, er, p⟩ => ⟨w, env, h, ok, er, ?_⟩
  · obtain ⟨w, env, hh, c, fs, hc, hm, ok, er, sl, xr, p⟩ := h I.len
    obtain ⟨t, ht, st⟩ := hsu c hc cls fs a oe d pn hm hz hfl
    exact ht.run pins s σ H D I (st w σ H env hh D ok er sl xr p)
  · unfold mTryAs at p
    revert p
    cases mb env h with
    | nx e1 h1 => exact fun p => p
    | bk e1 h1 => exact fun p => p
    | ct e1 h1 => exact fun p => p
    | rt e1 h1 => exact fun p => p
    | stuck => exact fun p => p
    | er c fs e1 hh1 =>
      intro p cv d σ' w' H' hcv s1 ok1 er1 xr1
      dsimp only at p
      split at p
      · next hc =>
        refine ⟨true, h1 c hc cv hcv, fun _ a ha hlen => ?_, fun z => nomatch z⟩
        have hlen' : i < σ'.length := by
          rw [List.length_set] at hlen
          omega
        refine ⟨w', e1.set i none, hh1, c, fs, hc, hcv, ok1, er1.unset i _, by rw [List.getElem?_set_self hlen'], xr1, ?_⟩
        have p' := PostS.step s1 p
        clear p
        revert p'
        cases su c fs (e1.set i none) hh1 with
        | nx e2 h2 => exact fun p' σ2 w2 H2 s2 ok2 er2 _ => p' _ w2 H2 s2 ok2 (er2.unset i none)
        | bk e2 h2 => exact fun p' σ2 w2 H2 s2 ok2 er2 _ => p' _ w2 H2 s2 ok2 (er2.unset i none)
        | ct e2 h2 => exact fun p' σ2 w2 H2 s2 ok2 er2 _ => p' _ w2 H2 s2 ok2 (er2.unset i none)
        | rt e2 h2 => exact fun p' => p'
        | er c2 fs2 e2 h2 => exact fun p' => p'
        | stuck => exact fun p' => p'
      · split at p
        · next hc ho => exact ⟨false, h2 c ho cv hcv, fun z => Bool.noConfusion z, fun _ => p cv d σ' w' H' hcv s1 ok1 er1 xr1⟩
        · exact p.elim
end
end Vi

set_option Elab.async false
set_option linter.all false
set_option autoImplicit false
set_option maxRecDepth 100000
set_option maxHeartbeats 2000000
namespace Vi
open PySem PySem.Spec PyProof.Rows L2
open scoped Classical
noncomputable section
variable {gm : Str → Option Value}
/-! ### defs that are called within a suite -/
structure OkH [Tbl] (P : Program) (wd : World) (K : PySem.W.Frag) (mg : Str → Option Value) (base : Heap) (x : Str) (k n : Nat) (m : MF) : Prop where
  ex : ∃ f fd ps, mg x = some (.ref f) ∧ PySem.W.keepIn K (.ref f) = true ∧ Binds K fd ps [] ∧ L2H.FnH P wd K mg base (L2N.CX P wd) k f fd ps (spM K mg n m)
section
variable {P : Program} {wd : World} {K : PySem.W.Frag} {mg : Str → Option Value} {base : Heap}
theorem OkH.mk' [Tbl] {x : Str} {st : Stmt} {N ps : List Str} {k n z : Nat} {b : MS} {m : MF} (h : Has K mg x st ps) (S : FnScope N ps (defScope st)) (hn : ps.length = n) (hN : N.length = z) (hm : m = run z b)
    (hbody : ∀ (f : Addr) (cdv : Value) (A : Around) (outer : List PySem.Env) (s : Shared) (H : Hp) (E : XK) (p : Addr × Obj), L2H.HotC (L2H.cxH (L2N.CX P wd) P wd K mg base N x (defScope st) f cdv A outer s H E p) → L2H.RoomH k (A.deeper (envOfC x (defScope st) s.heap.objs.size f cdv)) →
      PSs (L2H.cxH (L2N.CX P wd) P wd K mg base N x (defScope st) f cdv A outer s H E p) (defBody st) (tS K mg (fun cls d _ H => E cls d H) b)) : OkH P wd K mg base x (k + 1) n m := by
  obtain ⟨f, fd, F, hf, hb⟩ := h
  subst hn hN hm
  refine ⟨f, fd, ps, hf, F.kp, hb, ?_⟩
  obtain ⟨c1, c2, c3, c4, c5, c6, c7, c8, c9, rfl, l, hc⟩ := F.ex
  refine L2H.fn_ofH l hc S (fun vs H Q E z => z.1) fun A outer s H vs Q E p hot r z => ?_
  obtain ⟨hl, w, ds, h, ok, rv, q⟩ := z
  refine ⟨_, hbody f c7 A outer s H E p ⟨p, ⟨hot.1, hot.2⟩, List.mem_cons_self⟩ r, w, env0 N.length ds, h, ok, env0_ok rv, ?_⟩
  unfold run at q
  revert q
  cases b (env0 N.length ds) h with
  | nx e1 h1 => exact fun p σ' w' H' s ok' er' => p _ _ _ s ok' .non
  | bk e1 h1 => exact fun p => p.elim
  | ct e1 h1 => exact fun p => p.elim
  | rt e1 h1 => exact fun p => p
  | er c fs e1 h1 => exact fun p cv d σ' w' H' hc s ok' er' x => p cv d w' H' hc s ok' x
  | stuck => exact fun p => p
theorem OkH.zero [Tbl] {x : Str} {st : Stmt} {ps : List Str} {k n : Nat} (h : Has K mg x st ps) (hn : ps.length = n) : OkH P wd K mg base x k n (fun _ _ => .stuck) := by
  obtain ⟨f, fd, F, hf, hb⟩ := h
  subst hn
  exact ⟨f, fd, ps, hf, F.kp, hb, fun vs H Q E h => h.1, fun A outer s H args us vs Q E _ _ _ _ _ _ _ ⟨_, _, _, _, _, _, p⟩ => p.elim⟩
end
section
variable {X : Cx} {W : WX} {k j n : Nat} {x : Str} {p pos : Pos} {e : Expr} {es : List Expr} {m : MF} {ma : MA}
theorem e_fh [Tbl] (F : OkH X.prog X.w X.K X.mg X.base x k n m) (hr : L2H.RoomH j X.A) (hk : k ≤ j) (hc : L2H.HotC X) (tk : L2N.Takes X W) (ha : PA X (e :: es) (tA X.K X.mg W ma)) (hn : ∀ env h ds h', ma env h = .ok ds h' → ds.length = n) (hg : Gl X x) (hdb : (x == ("__debug__" : Str)) = false := by decide)
    (he : starEach (e :: es) X.env = (false, eval e X.env) :: starEach es X.env := by rfl) (hpl : (backTo pos (starEach es X.env)).any (·.1) = false := by rfl) : PE X (.Call (.Name x p) (e :: es) [] pos) (tE X.K X.mg W (mCall m ma)) := by
  obtain ⟨f, fd, ps, hm, kp, hb, F⟩ := F.ex
  exact PE.imp (L2H.pe_callH F (hr.mono hk) hc hg hm kp hb (fun σ => L2N.passAt tk σ) ha hdb he hpl) (t_call (fun _ _ _ h => h) hn)
end
/-- for k in range(n) there -/
theorem s_forh [Tbl] {X : Cx} {W : WX} {tg a : Expr} {body : List Stmt} {m : MA} {g : TG} {mg : MG} {vs : List Nat} {b : MS} {p pos2 pos : Pos} (hp : PassesOwn (model X.prog X.w) X.A X.env X.xe) (hc : L2H.HotC X) (hm : X.mg "range" = none) (hgl : Gl X "range") (ha : PA X [a] (tA X.K X.mg W m)) (hg : PG X tg g) (hb : TgS X.K g mg vs) (hbd : PSs X body (tS X.K X.mg W b))
    (hsa : starEach [a] X.env = [(false, eval a X.env)] := by rfl) (hs : ∀ x, foldedSetIterable (.Call (.Name "range" p) [a] [] pos2) X.env x = pure x := by intro _; rfl) : PS X (.For tg (.Call (.Name "range" p) [a] [] pos2) body [] pos) (tS X.K X.mg W (mFor (mRng rng1 m) mg b)) :=
  PS.imp (L2H.ps_forH hp hc (L2H.pi_range1H hgl hm ha hsa) hg hbd hs) (t_for (fun σ H Q ⟨w, env, h, ok, er, p⟩ => ⟨w, env, h, ok, er, Post.bind p fun vs ds w' H' h' s ok' vr p' => by
    obtain ⟨d, e, q⟩ := ofO_post p'
    unfold rng1 at e
    split at e
    · split at e
      · next c =>
        cases e
        obtain ⟨x, rfl, r⟩ := vrs1 vr
        cases r
        exact ⟨_, rfl, c.1, c.2, q _ _ _ (Step.refl _ _) ok' ⟨_, trivial, wk_rng⟩⟩
      · cases e
    · cases e⟩) hb fun _ _ _ h => h)

section
variable {X : Cx} {a : Addr} {oe : Obj} {pn : List (Addr × Obj)} {d : Option Addr} {i : Nat} {fs : Option (List (Str × D))}
theorem hot_suite {cv : Value} (hz : L2N.Zn cv d oe) (hf : ∃ vs, oe.data = .fields vs) : L2H.HotC (X.suite a ((a, oe) :: pn)) := by
  obtain ⟨vs, hv⟩ := hf
  exact ⟨(a, oe), ⟨rfl, vs, hv, hz.2.2 vs hv⟩, List.mem_cons_self⟩
theorem sp_call [Tbl] {k j n : Nat} {x : Str} {p pos : Pos} {e : Expr} {es : List Expr} {m : MF} {ma : MA} {cv : Value} (F : OkH X.prog X.w X.K X.mg X.base x k n m) (hr : Room j X.A) (hk : k ≤ j) (hz : L2N.Zn cv d oe) (hf : ∃ vs, oe.data = .fields vs) (ha : SPA X a oe pn d i fs (e :: es) ma) (hn : ∀ env h ds h', ma env h = .ok ds h' → ds.length = n) (hg : Gl X x) (hdb : (x == ("__debug__" : Str)) = false := by decide)
    (he : starEach (e :: es) (X.suite a ((a, oe) :: pn)).env = (false, eval e (X.suite a ((a, oe) :: pn)).env) :: starEach es (X.suite a ((a, oe) :: pn)).env := by rfl) (hpl : (backTo pos (starEach es (X.suite a ((a, oe) :: pn)).env)).any (·.1) = false := by rfl) : SPE X a oe pn d i fs (.Call (.Name x p) (e :: es) [] pos) (mCall m ma) := by
  obtain ⟨f, fd, ps, hm, kp, hb, F⟩ := F.ex
  obtain ⟨t, ht, s⟩ := ha
  have hr2 : L2H.RoomH k (X.suite a ((a, oe) :: pn)).A := ⟨by have := (hr.mono hk).dp; exact this, by have := (hr.mono hk).un; exact this⟩
  refine ⟨_, L2H.pe_callH (X := X.suite a ((a, oe) :: pn)) (E := fun _ _ _ _ => False) F hr2 (hot_suite hz hf) hg hm kp hb (fun σ => L2N.passAt (W := W0) none_out σ) ht hdb he hpl, fun w σ H env h Q ok er sl xr q => s w σ H env h _ ok er sl xr ?_⟩
  have hn' := hn env h
  unfold mCall at q
  revert q hn'
  cases ma env h with
  | ok ds h1 => exact fun q hn' v w' H' st ok' vr => ⟨by rw [vr.length]; exact hn' ds h1 rfl, w', ds, h1, ok', vr, Post.step st q⟩
  | err c fs h1 => exact fun q _ => q
  | stuck => exact fun q _ => q
end
/-! ### ord, partition, chains -/
def dOrd : List D → Hap → Option D := fun ds _ => match ds with
  | [.str x] => if x.length = 1 then some (.int (x.cps.getD 0 0 : Nat)) else none
  | _ => none
theorem s_ord [Tbl] {K : PySem.W.Frag} : CallS K (fun xs H Q => ∃ x, xs = [.str x] ∧ x.length = 1 ∧ Q (.int (x.cps.getD 0 0 : Nat)) H) dOrd := by
  intro w H h xs ds d Q ok vr e q
  unfold dOrd at e
  split at e
  · split at e
    · next hl =>
      cases e
      obtain ⟨x, rfl, r⟩ := vrs1 vr
      cases r
      exact ⟨_, rfl, hl, q _ _ _ (Step.refl _ _) ok (.int _)⟩
    · cases e
  · cases e
def dPartition : D → List D → Hap → Option D := fun a ds _ => match a, ds with
  | .str a, [.str b] => if (b.length == 0) = false ∧ a.length ≤ sizeLine then some (.tup [.str (Txt.partition a b).1, .str (Txt.partition a b).2.1, .str (Txt.partition a b).2.2]) else none
  | _, _ => none
theorem s_partition [Tbl] {K : PySem.W.Frag} : PMetS K (fun x xs H Q => ∃ a b, x = .str a ∧ xs = [.str b] ∧ (b.length == 0) = false ∧ a.length ≤ sizeLine ∧ ∀ p, H p = none → Q (.ref p) (upd H p (.tup [.str (Txt.partition a b).1, .str (Txt.partition a b).2.1, .str (Txt.partition a b).2.2]))) dPartition := by
  intro w H h x xs a ds d Q ok r1 r2 e q
  unfold dPartition at e
  split at e
  · split at e
    · next c =>
      cases e
      obtain ⟨y, rfl, r3⟩ := vrs1 r2
      cases r1
      cases r3
      exact ⟨_, _, rfl, rfl, c.1, c.2, fun p hp => q _ _ _ (ok.alloc hp).2 (ok.alloc hp).1 (vr_tup ok hp (.cons (.str _) (.cons (.str _) (.cons (.str _) .nil))))⟩
    · cases e
  · cases e
/-- a op1 b op2 c -/
def mChn (g g' : D → D → Hap → Option D) (a b c : ME) : ME := fun env h => (a env h).bind fun x h1 => (b env h1).bind fun y h2 => (ofO (g x y h2) h2).bind fun z h3 => match z with
  | .bl true => (c env h3).bind fun u h4 => ofO (g' y u h4) h4
  | .bl false => .ok (.bl false) h3
  | _ => .stuck
theorem t_chn [Tbl] {K : PySem.W.Frag} {W : WX} {r r' : R2} {g g' : D → D → Hap → Option D} {a b c : ME} (s : OpS K r g) (s' : OpS K r' g') : ∀ σ H Q, tE K gm W (mChn g g' a b c) σ H Q → tChain r r' (tE K gm W a) (tE K gm W b) (tE K gm W c) σ H Q := fun σ H Q ⟨w, env, h, ok, er, p⟩ =>
  ⟨w, env, h, ok, er, Post.bind p fun x da w1 H1 h1 s1 ok1 v1 p1 => ⟨w1, env, h1, ok1, er.mono s1, Post.bind p1 fun y db w2 H2 h2 s2 ok2 v2 p2 => by
    cases e : g da db h2 with
    | none => rw [e] at p2; exact p2.elim
    | some z =>
      rw [e] at p2
      refine s w2 H2 h2 x y da db z _ ok2 (v1.mono s2) v2 e fun v w3 H3 s3 ok3 v3 => ?_
      have p3 := Post.step s3 p2
      cases v3 <;> try exact p3.elim
      next k =>
      refine ⟨k, rfl, ?_⟩
      cases k with
      | false => exact p3.ok ok3 (.bl false)
      | true =>
        rw [if_pos rfl]
        exact ⟨w3, env, h2, ok3, ((er.mono s1).mono s2).mono s3, Post.bind p3 fun u du w4 H4 h4 s4 ok4 v4 p4 => by
          obtain ⟨d, e, q⟩ := ofO_post p4
          exact s' w4 H4 h4 y u db du d Q ok4 ((v2.mono s3).mono s4) v4 e q⟩⟩⟩
theorem e_chn [Tbl] {X : Cx} {W : WX} {op op' : CmpOp} {r r' : R2} {g g' : D → D → Hap → Option D} {a b c : Expr} {ma mb mc : ME} {pos : Pos} (ho : OpR X (compareOp op) r) (s : OpS X.K r g) (ho' : OpR X (compareOp op') r') (s' : OpS X.K r' g') (ha : PE X a (tE X.K X.mg W ma)) (hb : PE X b (tE X.K X.mg W mb)) (hc : PE X c (tE X.K X.mg W mc))
    (hm : lastMarks [op, op'] [b, c] = false := by with_unfolding_all rfl) : PE X (.Compare a [op, op'] [b, c] pos) (tE X.K X.mg W (mChn g g' ma mb mc)) := PE.imp (pe_chain ho ho' ha hb hc hm) (t_chn s s')
theorem c_chn [Tbl] {X : Cx} {W : WX} {op op' : CmpOp} {r r' : R2} {g g' : D → D → Hap → Option D} {a b c : Expr} {ma mb mc : ME} {pos : Pos} (ho : OpR X (compareOp op) r) (s : OpS X.K r g) (ho' : OpR X (compareOp op') r') (s' : OpS X.K r' g') (ha : PE X a (tE X.K X.mg W ma)) (hb : PE X b (tE X.K X.mg W mb)) (hc : PE X c (tE X.K X.mg W mc))
    (hm : lastMarks [op, op'] [b, c] = false := by with_unfolding_all rfl) : PT X (.Compare a [op, op'] [b, c] pos) (tT X.K X.mg W (mTst (mChn g g' ma mb mc))) := PT.imp (pt_chain ho ho' ha hb hc hm) (t_tst (t_chn s s'))
/-! ### __init__ of an own exception class -/
def inner (s : Stmt) : Stmt := match s with
  | .ClassDef (body := b :: _) .. => b
  | s => s
theorem hunits {k : Nat} {A : Around} (r : L2H.RoomH k A) : A.units + 64 < cLine := by
  have := r.un
  omega
section
variable {K : PySem.W.Frag} {C a : Addr} {f0 f1 f2 : Str} {w0 w1 w2 : V} {H : Hp} {Q : VK} {D : Ends} {n0 : Str}
theorem two_upd {d : Addr} {x y z : HO} (h : d ≠ a) : upd (upd (upd H d x) a y) d z = upd (upd H d z) a y := by
  funext b
  by_cases hb : b = d
  · subst hb
    rw [upd_same, upd_ne h, upd_same]
  · rw [upd_ne hb]
    by_cases ha : b = a
    · rw [ha, upd_same, upd_same]
    · rw [upd_ne ha, upd_ne ha, upd_ne hb, upd_ne hb]
theorem ini_1 (T : OexC K C) (hn : ∀ f ∈ [f0], PySem.W.findIn K (.ref C) f = some none) (e : H a = some (exo a C none)) (q : ∀ d, H d = none → d ≠ a → Q .non (upd (upd H d (exd d ([f0].zip [w0]).reverse)) a (exo a C (some d)))) (hD : ∀ σ H', Q .non H' → D.nx σ H') :
    tOst K f0 (tVar 0) (tVar 1) D (L2.start [n0, f0] [.ref a, w0]) H :=
  ⟨w0, rfl, .ref a, rfl, a, C, rfl, T, hn _ (by simp), .inl ⟨e, fun d hd hda => hD _ _ (q d hd hda)⟩⟩
theorem ini_2 (T : OexC K C) (hn : ∀ f ∈ [f0, f1], PySem.W.findIn K (.ref C) f = some none) (e : H a = some (exo a C none)) (q : ∀ d, H d = none → d ≠ a → Q .non (upd (upd H d (exd d ([f0, f1].zip [w0, w1]).reverse)) a (exo a C (some d)))) (hD : ∀ σ H', Q .non H' → D.nx σ H') :
    tSeq (tOst K f0 (tVar 0) (tVar 1)) (tOst K f1 (tVar 0) (tVar 2)) D (L2.start [n0, f0, f1] [.ref a, w0, w1]) H :=
  ⟨w0, rfl, .ref a, rfl, a, C, rfl, T, hn _ (by simp), .inl ⟨e, fun d hd hda => ⟨w1, rfl, .ref a, rfl, a, C, rfl, T, hn _ (by simp), .inr ⟨d, _, upd_same, by rw [upd_ne hda, upd_same], by simp, by
    rw [two_upd hda]
    exact hD _ _ (q d hd hda)⟩⟩⟩⟩
theorem ini_3 (T : OexC K C) (hn : ∀ f ∈ [f0, f1, f2], PySem.W.findIn K (.ref C) f = some none) (e : H a = some (exo a C none)) (q : ∀ d, H d = none → d ≠ a → Q .non (upd (upd H d (exd d ([f0, f1, f2].zip [w0, w1, w2]).reverse)) a (exo a C (some d)))) (hD : ∀ σ H', Q .non H' → D.nx σ H') :
    tSeq (tOst K f0 (tVar 0) (tVar 1)) (tSeq (tOst K f1 (tVar 0) (tVar 2)) (tOst K f2 (tVar 0) (tVar 3))) D (L2.start [n0, f0, f1, f2] [.ref a, w0, w1, w2]) H :=
  ⟨w0, rfl, .ref a, rfl, a, C, rfl, T, hn _ (by simp), .inl ⟨e, fun d hd hda => ⟨w1, rfl, .ref a, rfl, a, C, rfl, T, hn _ (by simp), .inr ⟨d, _, upd_same, by rw [upd_ne hda, upd_same], by simp, ⟨w2, rfl, .ref a, rfl, a, C, rfl, T, hn _ (by simp), .inr ⟨d, _, by rw [two_upd hda, upd_same], by rw [two_upd hda, upd_ne hda, upd_same], by simp, by
    rw [two_upd hda, two_upd hda]
    exact hD _ _ (q d hd hda)⟩⟩⟩⟩⟩⟩
end
end
end Vi

set_option Elab.async false
set_option linter.all false
set_option autoImplicit false
set_option maxRecDepth 100000
set_option maxHeartbeats 2000000
namespace Vi
open PySem PySem.Spec PyProof.Rows L2
open scoped Classical
noncomputable section
variable {gm : Str → Option Value}
/-! ### f"text{x}" -/
def fmtD : D → Option Str
  | .str y => if y.length ≤ sizeLine then some y else none
  | .int i => if i.natAbs.log2 < 1920 then some (toString i : Str) else none
  | _ => none
def mFs (c : Str) (b : ME) : ME := fun env h => if c.length ≤ sizeLine then (b env h).bind fun d h1 => ofO ((fmtD d).bind fun y => if c.length + y.length ≤ sizeLine then some (D.str (c ++ y)) else none) h1 else .stuck
theorem empty_app (c : Str) : (Str.empty ++ c : Str) = c := TL.ext_tl (by rw [TL.tl_append]; rfl)
theorem len_ap (x y : Str) : (x ++ y).length = x.length + y.length := by rw [TL.len_tl, TL.tl_append, List.length_append, ← TL.len_tl, ← TL.len_tl]
section
variable {X : Cx} {W : WX}
theorem e_fs [Tbl] {c : Str} {j : Nat} {p1 p2 pos : Pos} {e : Expr} {b : ME} (hb : PE X e (tE X.K X.mg W b)) : PE X (.JoinedStr [.Constant (.str c) j p1, .FormattedValue e (-1) none p2] pos) (tE X.K X.mg W (mFs c b)) := by
  refine PE.imp (pe_joined (.cons pe_str (.cons (pe_fmt hb) .nil))) fun σ H Q hq => ?_
  obtain ⟨w, env, h, ok, er, p⟩ := hq
  unfold mFs at p
  split at p
  · next hc =>
    show ∃ y : Str, V.str c = .str y ∧ (Str.empty ++ y).length ≤ sizeLine ∧ _
    refine ⟨c, rfl, by rw [empty_app]; exact hc, ?_⟩
    rw [empty_app]
    refine ⟨w, env, h, ok, er, Post.bind p fun x d w1 H1 h1 s1 ok1 v1 p1 => ?_⟩
    obtain ⟨d2, e2, q⟩ := ofO_post p1
    cases ef : fmtD d with
    | none => rw [ef] at e2; cases e2
    | some y =>
      rw [ef] at e2
      have e2 : (if c.length + y.length ≤ sizeLine then some (D.str (c ++ y)) else none) = some d2 := e2
      split at e2
      · next hl =>
        cases e2
        unfold fmtD at ef
        split at ef
        · next z =>
          split at ef
          · next hz =>
            cases ef
            cases v1
            exact .inl ⟨y, rfl, hz, y, rfl, by rw [len_ap]; exact hl, q _ _ _ (Step.refl _ _) ok1 (.str _)⟩
          · cases ef
        · next i =>
          split at ef
          · next hz =>
            cases ef
            cases v1
            exact .inr ⟨i, rfl, hz, toString i, rfl, by rw [len_ap]; exact hl, q _ _ _ (Step.refl _ _) ok1 (.str _)⟩
          · cases ef
        · cases ef
      · cases e2
  · exact p.elim
end
/-! ### xs.extend(ys), xs.pop(i) -/
def gExtend : D → List D → Hap → Rs D := fun a ds h => match a, ds with
  | .ref i, [d] => match h[i]?, getM d h with
    | some (.lst xs), some zs => if xs.length + zs.length ≤ sizeLine then .ok .non (h.set i (.lst (xs ++ zs))) else .stuck
    | _, _ => .stuck
  | _, _ => .stuck
theorem s_extend [Tbl] {K : PySem.W.Frag} : MetS K gm rExtend gExtend := by
  intro w H h x xs a ds Q E ok r1 r2 p
  unfold gExtend at p
  split at p
  · next i d =>
    split at p
    · next zs ys e1 eM =>
      split at p
      · next hl =>
        obtain ⟨v, rfl, r3⟩ := vrs1 r2
        cases r1
        next a e2 =>
        obtain ⟨_, o, e3, e4⟩ := ok.cel i a _ e2 e1
        cases o <;> simp [CRel] at e4
        next vs =>
        obtain ⟨b, us, rfl, e5, e6⟩ := getM_ok ok r3 eM
        have q := ok.write (hn := by rw [e1]; exact fun _ z => nomatch z) (o := .lst (vs ++ us)) (c := .lst (zs ++ ys)) e2 (VRs.append e4 e6)
        exact ⟨a, b, vs, us, rfl, rfl, e3, e5, by rw [e4.length, e6.length]; exact hl, p _ _ _ q.2 q.1 .non⟩
      · exact p.elim
    · exact p.elim
  · exact p.elim
def gPopAt : D → List D → Hap → Rs D := fun a ds h => match a, ds with
  | .ref i, [.int j] => match h[i]? with
    | some (.lst xs) => if 0 ≤ j ∧ j < 2 ^ 63 then (match xs[j.toNat]? with
        | some y => .ok y (h.set i (.lst (xs.eraseIdx j.toNat)))
        | none => .stuck) else .stuck
    | _ => .stuck
  | _, _ => .stuck
theorem VRs.erase {K : PySem.W.Frag} {w : Wd} : ∀ {vs : List V} {ds : List D} (n : Nat), VRs K w vs ds → VRs K w (vs.eraseIdx n) (ds.eraseIdx n)
  | _, _, n, .nil => by simpa using VRs.nil
  | _, _, 0, .cons r rs => rs
  | _, _, n + 1, .cons r rs => .cons r (VRs.erase n rs)
theorem s_popAt [Tbl] {K : PySem.W.Frag} : MetS K gm rPopAt gPopAt := by
  intro w H h x xs a ds Q E ok r1 r2 p
  unfold gPopAt at p
  split at p
  · next i j =>
    split at p
    · next zs e1 =>
      split at p
      · next hj =>
        split at p
        · next y ey =>
          obtain ⟨v, rfl, r3⟩ := vrs1 r2
          cases r3
          cases r1
          next a e2 =>
          obtain ⟨_, o, e3, e4⟩ := ok.cel i a _ e2 e1
          cases o <;> simp [CRel] at e4
          next vs =>
          have hlt : j.toNat < zs.length := (List.getElem?_eq_some_iff.mp ey).1
          obtain ⟨u, eu, ru⟩ := e4.get' ey
          have q := ok.write (hn := by rw [e1]; exact fun _ z => nomatch z) (o := .lst (vs.eraseIdx j.toNat)) (c := .lst (zs.eraseIdx j.toNat)) e2 (VRs.erase _ e4)
          refine ⟨a, vs, j, j.toNat, u, rfl, rfl, e3, by omega, hj.2, ?_, eu, p _ _ _ q.2 q.1 (ru.mono q.2)⟩
          have hl := e4.length
          have hj1 := hj.1
          unfold seqIndex?
          have n0 : ¬ j < 0 := by omega
          have n1 : (decide (0 ≤ j) && decide (j < (vs.length : Int))) = true := by
            rw [Bool.and_eq_true, decide_eq_true_iff, decide_eq_true_iff]
            omega
          simp only [if_neg n0]
          exact if_pos n1
        · exact p.elim
      · exact p.elim
    · exact p.elim
  · exact p.elim
/-! ### int(text) -/
def dIntS : List D → Hap → Option D := fun ds h => match ds with
  | [.str z] => if z.length ≤ 640 then (PySem.intText? z).map .int else none
  | ds => dInt ds h
theorem call_intS {X : Cx} : CallR X (.type "int") (fun xs H Q => ((∃ i, xs = [.int i] ∧ Q (.int i) H) ∨ ∃ k, xs = [.bl k] ∧ Q (.int (if k then 1 else 0)) H) ∨ ∃ a n, xs = [.str a] ∧ PySem.intText? a = some n ∧ a.length ≤ 640 ∧ Q (.int n) H) := CallR.or call_int1 call_int_str
theorem s_intS [Tbl] {K : PySem.W.Frag} : CallS K (fun xs H Q => ((∃ i, xs = [.int i] ∧ Q (.int i) H) ∨ ∃ k, xs = [.bl k] ∧ Q (.int (if k then 1 else 0)) H) ∨ ∃ a n, xs = [.str a] ∧ PySem.intText? a = some n ∧ a.length ≤ 640 ∧ Q (.int n) H) dIntS := by
  intro w H h xs ds d Q ok vr e q
  unfold dIntS at e
  split at e
  · next z =>
    split at e
    · next hz =>
      obtain ⟨x, rfl, r⟩ := vrs1 vr
      cases r
      cases eq : PySem.intText? z with
      | none => rw [eq] at e; cases e
      | some n =>
        rw [eq] at e
        cases e
        exact .inr ⟨z, n, rfl, eq, hz, q _ _ _ (Step.refl _ _) ok (.int _)⟩
    · cases e
  · exact .inl (s_int w H h xs ds d Q ok vr e q)
end
end Vi

set_option Elab.async false
set_option linter.all false
set_option autoImplicit false
set_option maxRecDepth 100000
set_option maxHeartbeats 2000000
namespace Vi
open PySem PySem.Spec PyProof.Rows L2
open scoped Classical
noncomputable section
variable {gm : Str → Option Value}
/-! ### dicts as cells, keys ints or texts -/
def getD (d : D) (h : Hap) : Option (List (Key × D)) := match d with
  | .ref i => match h[i]? with
    | some (.dct kvs) => some kvs
    | _ => none
  | _ => none
def keyD : D → Option Key
  | .int i => some (.inl i)
  | .str x => some (.inr x)
  | _ => none
def keyV : Key → D
  | .inl i => .int i
  | .inr x => .str x
def valD (kvs : List (Key × D)) (k : Key) : Option D := (kvs.find? fun kv => decide (kv.1 = k)).map (·.2)
def putD (kvs : List (Key × D)) (k : Key) (v : D) : List (Key × D) :=
  if (kvs.any fun kv => decide (kv.1 = k)) = true then kvs.map (fun kv => if kv.1 = k then (kv.1, v) else kv) else kvs ++ [(k, v)]
def dropD (kvs : List (Key × D)) (k : Key) : List (Key × D) := kvs.filter fun kv => decide (kv.1 ≠ k)
section
variable {K : PySem.W.Frag}
inductive KVR (K : PySem.W.Frag) (w : Wd) : List (Key × V) → List (Key × D) → Prop
  | nil : KVR K w [] []
  | cons {k : Key} {v : V} {d : D} {vs : List (Key × V)} {ds : List (Key × D)} : VR K w v d → KVR K w vs ds → KVR K w ((k, v) :: vs) ((k, d) :: ds)
variable {w : Wd}
theorem kvr_of : ∀ {vs : List (Key × V)} {ds : List (Key × D)}, vs.map Prod.fst = ds.map Prod.fst → VRs K w (vs.map Prod.snd) (ds.map Prod.snd) → KVR K w vs ds
  | [], [], _, _ => .nil
  | [], _ :: _, h, _ => by simp at h
  | _ :: _, [], h, _ => by simp at h
  | (k, v) :: vs, (k2, d) :: ds, h, r => by
    simp only [List.map_cons, List.cons.injEq] at h
    obtain ⟨rfl, h⟩ := h
    rw [List.map_cons, List.map_cons] at r
    cases r with
    | cons a b => exact .cons a (kvr_of h b)
theorem KVR.fst : ∀ {vs : List (Key × V)} {ds : List (Key × D)}, KVR K w vs ds → vs.map Prod.fst = ds.map Prod.fst
  | _, _, .nil => rfl
  | _, _, .cons _ t => by rw [List.map_cons, List.map_cons, t.fst]
theorem KVR.snd : ∀ {vs : List (Key × V)} {ds : List (Key × D)}, KVR K w vs ds → VRs K w (vs.map Prod.snd) (ds.map Prod.snd)
  | _, _, .nil => .nil
  | _, _, .cons a t => by rw [List.map_cons, List.map_cons]; exact .cons a t.snd
theorem KVR.len {vs : List (Key × V)} {ds : List (Key × D)} (r : KVR K w vs ds) : vs.length = ds.length := by
  have := congrArg List.length r.fst
  simpa using this
theorem KVR.mono {w' : Wd} {H H' : Hp} (s : Step w H w' H') : ∀ {vs : List (Key × V)} {ds : List (Key × D)}, KVR K w vs ds → KVR K w' vs ds
  | _, _, .nil => .nil
  | _, _, .cons a t => .cons (a.mono s) (t.mono s)
theorem KVR.val : ∀ {vs : List (Key × V)} {ds : List (Key × D)} (k : Key), KVR K w vs ds → (valV vs k = none ∧ valD ds k = none) ∨ ∃ v d, valV vs k = some v ∧ valD ds k = some d ∧ VR K w v d
  | _, _, _, .nil => .inl ⟨rfl, rfl⟩
  | (k0, v) :: vs, (_, d) :: ds, k, .cons a t => by
    unfold valV valD
    by_cases e : k0 = k
    · right
      exact ⟨v, d, by simp [List.find?_cons, e], by simp [List.find?_cons, e], a⟩
    · rcases KVR.val k t with ⟨h1, h2⟩ | ⟨v2, d2, h1, h2, h3⟩
      · left
        unfold valV at h1
        unfold valD at h2
        simp only [List.find?_cons, e, decide_false]
        exact ⟨h1, h2⟩
      · right
        unfold valV at h1
        unfold valD at h2
        simp only [List.find?_cons, e, decide_false]
        exact ⟨v2, d2, h1, h2, h3⟩
theorem KVR.any : ∀ {vs : List (Key × V)} {ds : List (Key × D)} (k : Key), KVR K w vs ds → (vs.any fun kv => decide (kv.1 = k)) = ds.any fun kv => decide (kv.1 = k)
  | _, _, _, .nil => rfl
  | _, _, k, .cons a t => by rw [List.any_cons, List.any_cons, KVR.any k t]
theorem KVR.repl {v0 : V} {d0 : D} (r : VR K w v0 d0) (k : Key) : ∀ {vs : List (Key × V)} {ds : List (Key × D)}, KVR K w vs ds → KVR K w (vs.map fun kv => if kv.1 = k then (kv.1, v0) else kv) (ds.map fun kv => if kv.1 = k then (kv.1, d0) else kv)
  | _, _, .nil => .nil
  | (k0, _) :: _, _, .cons a t => by
    rw [List.map_cons, List.map_cons]
    by_cases e : k0 = k
    · simp only [e, if_true]
      exact .cons r (KVR.repl r k t)
    · simp only [e, if_false]
      exact .cons a (KVR.repl r k t)
theorem KVR.app : ∀ {vs vs' : List (Key × V)} {ds ds' : List (Key × D)}, KVR K w vs ds → KVR K w vs' ds' → KVR K w (vs ++ vs') (ds ++ ds')
  | _, _, _, _, .nil, t => t
  | _, _, _, _, .cons a b, t => .cons a (KVR.app b t)
theorem KVR.put {v0 : V} {d0 : D} (r : VR K w v0 d0) (k : Key) {vs : List (Key × V)} {ds : List (Key × D)} (t : KVR K w vs ds) : KVR K w (putK vs k v0) (putD ds k d0) := by
  unfold putK putD
  rw [t.any k]
  by_cases c : (ds.any fun kv => decide (kv.1 = k)) = true
  · rw [if_pos c, if_pos c]
    exact t.repl r k
  · rw [if_neg c, if_neg c]
    exact t.app (.cons r .nil)
theorem KVR.drop (k : Key) : ∀ {vs : List (Key × V)} {ds : List (Key × D)}, KVR K w vs ds → KVR K w (dropK vs k) (dropD ds k)
  | _, _, .nil => .nil
  | (k0, _) :: _, _, .cons a t => by
    unfold dropK dropD
    rw [List.filter_cons, List.filter_cons]
    by_cases e : k0 = k
    · simp only [e, ne_eq, not_true, decide_false]
      exact KVR.drop k t
    · simp only [e, ne_eq, not_false_iff, decide_true, if_true]
      exact .cons a (KVR.drop k t)
variable {H : Hp} {h : Hap} {x : V} {d : D} {ds : List (Key × D)}
theorem getD_ok [Tbl] (ok : Ok K w H h) (r : VR K w x d) (e : getD d h = some ds) : ∃ a i vs, x = .ref a ∧ d = .ref i ∧ w.ρ[i]? = some a ∧ h[i]? = some (.dct ds) ∧ H a = some (.dK vs) ∧ KVR K w vs ds := by
  cases r <;> simp [getD] at e
  next a i e1 =>
  split at e
  · next xs e2 =>
    cases e
    obtain ⟨_, o, e3, e4⟩ := ok.cel i a _ e1 e2
    cases o <;> simp [CRel] at e4
    next vs => exact ⟨a, i, vs, rfl, rfl, e1, e2, e3, kvr_of e4.1 e4.2⟩
  · cases e
theorem getD_ref {i : Nat} (e : getD (.ref i) h = some ds) : h[i]? = some (.dct ds) := by
  unfold getD at e
  dsimp only at e
  split at e
  · next q => cases e; exact q
  · cases e
theorem keyD_ok {k : Key} (r : VR K w x d) (e : keyD d = some k) : x = kV k := by
  cases r <;> simp [keyD] at e <;> subst e <;> rfl
theorem vr_keyV (k : Key) : VR K w (kV k) (keyV k) := by
  cases k with
  | inl i => exact .int i
  | inr i => exact .str i
theorem Ok.dwrite [Tbl] {i : Nat} {a : Addr} {vs : List (Key × V)} (ok : Ok K w H h) (hn : ∀ kds, h[i]? ≠ some (.lok kds)) (hi : w.ρ[i]? = some a) (r : KVR K w vs ds) : Ok K w (upd H a (.dK vs)) (h.set i (.dct ds)) ∧ Step w H w (upd H a (.dK vs)) := ok.write hn hi ⟨r.fst, r.snd⟩
/-- frozen objects, many at once -/
theorem Ok.grow [Tbl] {F' : Hp} {H' : Hp} (ok : Ok K w H h) (hk : ∀ a o, H a = some o → H' a = some o) (f1 : ∀ a o, w.F a = some o → F' a = some o) (f2 : ∀ a o, F' a = some o → H' a = some o) (f3 : ∀ a o, F' a = some o → w.F a = some o ∨ H a = none) :
    Ok K ⟨F', w.ρ⟩ H' h ∧ Step w H ⟨F', w.ρ⟩ H' := by
  refine ⟨⟨f2, ok.len, fun i a c e1 e2 => ?_, ok.nd, fun x m => ?tab⟩, ⟨f1, ⟨[], by simp⟩, fun a o _ _ e => hk a o e, fun a e => ?_, fun a m => .inl m, f3⟩⟩
  case tab =>
    have y := ok.tab x m
    obtain ⟨ps, e1, _⟩ := y.t
    refine y.up ?_ f1 (by rw [e1]; exact hk _ _ e1)
    show F' x.1 = _
    rw [y.f]
    cases q : F' x.1 with
    | none => rfl
    | some o =>
      rcases f3 _ _ q with z2 | z2
      · rw [y.f] at z2; cases z2
      · rw [e1] at z2; cases z2
  · have x := ok.cel i a c e1 e2
    obtain ⟨u, e3, _⟩ := x.ex ok
    refine x.up f1 (fun _ _ e => e) (fun z => ?_) (by rw [e3]; exact hk _ _ e3)
    show F' a = none
    cases q : F' a with
    | none => rfl
    | some o =>
      rcases f3 a o q with z2 | z2
      · rw [z] at z2; cases z2
      · rw [e3] at z2; cases z2
  · cases q : H a with
    | none => exact absurd q e
    | some o => rw [hk _ _ q]; exact fun z => nomatch z
end
/-! {} -/
def mDNew : ME := fun _ h => .ok (.ref h.length) (h ++ [.dct []])
section
variable {X : Cx} {W : WX}
theorem e_dnew [Tbl] {pos : Pos} : PE X (.Dict [] [] pos) (tE X.K X.mg W mDNew) := PE.imp pe_dnewK fun σ H Q ⟨w, env, h, ok, er, p⟩ a ha => by
  have q := ok.cell (c := .dct []) (o := .dK []) ha ⟨rfl, .nil⟩
  refine p _ _ _ q.2 q.1 (.ref ?_)
  show (w.ρ ++ [a])[h.length]? = some a
  rw [← ok.len, List.getElem?_append_right (Nat.le_refl _), Nat.sub_self]
  rfl
/-! d[k], k in d, k not in d -/
def dDGet : D → D → Hap → Option D := fun a b h => match getD a h, keyD b with
  | some kvs, some k => valD kvs k
  | _, _ => none
def rDGet : R2 := fun x y H Q => ∃ a v, x = .ref a ∧ DGet H a y (some v) ∧ Q v H
theorem s_dget [Tbl] {K : PySem.W.Frag} : OpS K rDGet dDGet := by
  intro w H h x y a b d Q ok vx vy e q
  unfold dDGet at e
  split at e
  · next kvs k e1 e2 =>
    obtain ⟨p, i, vs, rfl, rfl, h1, h2, h3, r⟩ := getD_ok ok vx e1
    have q1 := keyD_ok vy e2
    subst q1
    rcases r.val k with ⟨z1, z2⟩ | ⟨v, d2, z1, z2, z3⟩
    · rw [e] at z2; cases z2
    · rw [e] at z2
      cases z2
      exact ⟨p, v, rfl, z1 ▸ DGet.k h3, q _ _ _ (Step.refl _ _) ok z3⟩
  · cases e
theorem e_dget [Tbl] {o i : Expr} {mo mi : ME} {pos : Pos} (hu : X.A.units + 64 < cLine) (ho : PE X o (tE X.K X.mg W mo)) (hi : PE X i (tE X.K X.mg W mi)) (hs : NoSl i) : PE X (.Subscript o i pos) (tE X.K X.mg W (mBin dDGet mo mi)) :=
  PE.imp (pe_dget (by omega) ho hi hs) (t_bin s_dget)
def dDIn : D → D → Hap → Option D := fun b a h => match getD a h, keyD b with
  | some kvs, some k => some (.bl (valD kvs k).isSome)
  | _, _ => none
def dDNotIn : D → D → Hap → Option D := fun b a h => match getD a h, keyD b with
  | some kvs, some k => some (.bl (!(valD kvs k).isSome))
  | _, _ => none
def rDIn : R2 := fun y x H Q => ∃ a o, x = .ref a ∧ DGet H a y o ∧ Q (.bl o.isSome) H
def rDNotIn : R2 := fun y x H Q => ∃ a o, x = .ref a ∧ DGet H a y o ∧ Q (.bl (!o.isSome)) H
theorem op_din (hu : X.A.units + 64 < cLine) : OpR X (compareOp .In) rDIn := by
  intro pins s σ H x y v u Q I rx ry h
  obtain ⟨a, o, rfl, g, q⟩ := h
  obtain rfl : u = Value.ref a := ry
  exact d_in (by omega) I g rx fun s' I' => ⟨.bl o.isSome, H, I', rfl, q⟩
theorem op_dnotin (hu : X.A.units + 64 < cLine) : OpR X (compareOp .NotIn) rDNotIn := by
  intro pins s σ H x y v u Q I rx ry h
  obtain ⟨a, o, rfl, g, q⟩ := h
  obtain rfl : u = Value.ref a := ry
  exact d_notIn (by omega) I g rx fun s' I' => ⟨.bl (!o.isSome), H, I', rfl, q⟩
theorem KVR.isSome {K : PySem.W.Frag} {w : Wd} {vs : List (Key × V)} {ds : List (Key × D)} (r : KVR K w vs ds) (k : Key) : (valV vs k).isSome = (valD ds k).isSome := by
  rcases r.val k with ⟨z1, z2⟩ | ⟨v, d2, z1, z2, z3⟩ <;> rw [z1, z2] <;> rfl
theorem s_din [Tbl] {K : PySem.W.Frag} : OpS K rDIn dDIn := by
  intro w H h x y a b d Q ok vx vy e q
  unfold dDIn at e
  split at e
  · next kvs k e1 e2 =>
    cases e
    obtain ⟨p, i, vs, rfl, rfl, h1, h2, h3, r⟩ := getD_ok ok vy e1
    have q1 := keyD_ok vx e2
    subst q1
    exact ⟨p, _, rfl, DGet.k h3, by rw [r.isSome k]; exact q _ _ _ (Step.refl _ _) ok (.bl _)⟩
  · cases e
theorem s_dnotin [Tbl] {K : PySem.W.Frag} : OpS K rDNotIn dDNotIn := by
  intro w H h x y a b d Q ok vx vy e q
  unfold dDNotIn at e
  split at e
  · next kvs k e1 e2 =>
    cases e
    obtain ⟨p, i, vs, rfl, rfl, h1, h2, h3, r⟩ := getD_ok ok vy e1
    have q1 := keyD_ok vx e2
    subst q1
    exact ⟨p, _, rfl, DGet.k h3, by rw [r.isSome k]; exact q _ _ _ (Step.refl _ _) ok (.bl _)⟩
  · cases e
/-! len(d) -/
def dDLen : List D → Hap → Option D := fun ds h => match ds with
  | [d] => (getD d h).map fun kvs => .int kvs.length
  | _ => none
theorem s_dlen [Tbl] {K : PySem.W.Frag} : CallS K (fun xs H Q => ∃ a kvs, xs = [V.ref a] ∧ H a = some (.dK kvs) ∧ Q (.int kvs.length) H) dDLen := by
  intro w H h xs ds d Q ok vr e q
  unfold dDLen at e
  split at e
  · obtain ⟨x, rfl, r⟩ := vrs1 vr
    obtain ⟨kvs, e1, e2⟩ := Option.map_eq_some_iff.mp e
    subst e2
    obtain ⟨p, i, vs, rfl, rfl, h1, h2, h3, r2⟩ := getD_ok ok r e1
    exact ⟨p, vs, rfl, h3, by rw [r2.len]; exact q _ _ _ (Step.refl _ _) ok (.int _)⟩
  · cases e
/-! list(d) -/
def dDList : List D → Hap → Option D := fun ds h => match ds with
  | [d] => (getD d h).map fun kvs => .lst (kvs.map fun kv => keyV kv.1)
  | _ => none
theorem KVR.keys {K : PySem.W.Frag} {w : Wd} : ∀ {vs : List (Key × V)} {ds : List (Key × D)}, KVR K w vs ds → VRs K w (vs.map fun kv => kV kv.1) (ds.map fun kv => keyV kv.1)
  | _, _, .nil => .nil
  | _, _, .cons _ t => .cons (vr_keyV _) t.keys
theorem s_dlist [Tbl] {K : PySem.W.Frag} : CallS K rListD dDList := by
  intro w H h xs ds d Q ok vr e q
  unfold dDList at e
  split at e
  · obtain ⟨x, rfl, r⟩ := vrs1 vr
    obtain ⟨kvs, e1, e2⟩ := Option.map_eq_some_iff.mp e
    subst e2
    obtain ⟨p, i, vs, rfl, rfl, h1, h2, h3, r2⟩ := getD_ok ok r e1
    exact ⟨p, vs, rfl, h3, fun l hl => q _ _ _ (ok.alloc hl).2 (ok.alloc hl).1 (vr_lst ok hl r2.keys)⟩
  · cases e
/-! d[k] = v, del d[k] -/
def sDix : D → D → D → Hap → Option Hap := fun o i v h => match o, keyD i with
  | .ref j, some k => match h[j]? with
    | some (.dct kvs) => if kvs.length < sizeLine then some (h.set j (.dct (putD kvs k v))) else none
    | _ => none
  | _, _ => none
def mDSub (a o i : ME) : MS := fun env h => RsS (a env h) env fun d h1 => RsS (o env h1) env fun od h2 => RsS (i env h2) env fun id h3 => match sDix od id d h3 with
  | some h4 => .nx env h4
  | none => .stuck
theorem s_dsub [Tbl] {o i e : Expr} {ma mo mi : ME} {pos pos' : Pos} (hu : X.A.units + 64 < cLine) (he : PE X e (tE X.K X.mg W ma)) (ho : PE X o (tE X.K X.mg W mo)) (hi : PE X i (tE X.K X.mg W mi)) (hs : swapsWith e (some (.Subscript o i pos')) pos.line X.env = pure false := by rfl) :
    PS X (.Assign [.Subscript o i pos'] e pos) (tS X.K X.mg W (mDSub ma mo mi)) := PS.imp (ps_dput (by omega) ho hi he hs) fun D σ H ⟨w, env, h, ok, er, p⟩ =>
  ⟨w, env, h, ok, er, PostS.bind er p fun v d w1 H1 h1 s1 ok1 v1 p1 => ⟨w1, env, h1, ok1, er.mono s1, PostS.bind (er.mono s1) p1 fun x od w2 H2 h2 s2 ok2 v2 p2 =>
    ⟨w2, env, h2, ok2, (er.mono s1).mono s2, PostS.bind ((er.mono s1).mono s2) p2 fun y id w3 H3 h3 s3 ok3 v3 p3 => by
      cases e1 : sDix od id d h3 with
      | none => rw [e1] at p3; exact p3.elim
      | some h4 =>
        rw [e1] at p3
        unfold sDix at e1
        split at e1
        · next j k ek =>
          split at e1
          · next kvs ej =>
            split at e1
            · next hl =>
              cases e1
              have q1 := keyD_ok v3 ek
              subst q1
              have v2' := v2.mono s3
              obtain ⟨p, i2, vs, rfl, e9, h1', h2', h3', r⟩ := getD_ok (ds := kvs) ok3 v2' (by unfold getD; dsimp only; rw [ej])
              cases e9
              have rr := r.put ((v1.mono s2).mono s3) k
              refine ⟨p, _, rfl, DPut.k h3' (by rw [r.len]; exact hl), ?_⟩
              have z := ok3.dwrite (by rw [h2']; exact fun _ z => nomatch z) h1' rr
              exact p3 σ w3 _ z.2 z.1 (((er.mono s1).mono s2).mono s3)
            · cases e1
          · cases e1
        · cases e1⟩⟩⟩
def mDDel (o i : ME) : MS := fun env h => RsS (o env h) env fun od h2 => RsS (i env h2) env fun id h3 => match od, keyD id with
  | .ref j, some k => match h3[j]? with
    | some (.dct kvs) => if (valD kvs k).isSome = true then .nx env (h3.set j (.dct (dropD kvs k))) else .stuck
    | _ => .stuck
  | _, _ => .stuck
theorem s_ddel [Tbl] {o i : Expr} {mo mi : ME} {pos tpos : Pos} (ho : PE X o (tE X.K X.mg W mo)) (hi : PE X i (tE X.K X.mg W mi)) : PS X (.Delete [.Subscript o i tpos] pos) (tS X.K X.mg W (mDDel mo mi)) := PS.imp (ps_ddel ho hi) fun D σ H ⟨w, env, h, ok, er, p⟩ =>
  ⟨w, env, h, ok, er, PostS.bind er p fun x od w2 H2 h2 s2 ok2 v2 p2 => ⟨w2, env, h2, ok2, er.mono s2, PostS.bind (er.mono s2) p2 fun y id w3 H3 h3 s3 ok3 v3 p3 => by
    split at p3
    · next j k ek =>
      split at p3
      · next kvs ej =>
        split at p3
        · next hl =>
          have q1 := keyD_ok v3 ek
          subst q1
          obtain ⟨p, i2, vs, rfl, e9, h1', h2', h3', r⟩ := getD_ok (ds := kvs) ok3 (v2.mono s3) (by unfold getD; dsimp only; rw [ej])
          cases e9
          have z := ok3.dwrite (by rw [h2']; exact fun _ z => nomatch z) h1' (r.drop k)
          exact ⟨p, vs, k, rfl, h3', rfl, by rw [r.isSome k]; exact hl, p3 σ w3 _ z.2 z.1 ((er.mono s2).mono s3)⟩
        · exact p3.elim
      · exact p3.elim
    · exact p3.elim⟩⟩
/-! methods: get, pop, setdefault -/
theorem isD_of [Tbl] {K : PySem.W.Frag} {w : Wd} {H : Hp} {h : Hap} {x : V} {d : D} (ok : Ok K w H h) (r : VR K w x d) (e : isT "dict" d h = true) : ∃ a, x = .ref a ∧ IsD H a := by
  cases r <;> simp [isT] at e
  next a i e1 =>
  split at e
  · simp at e
  · next xs e2 =>
    obtain ⟨_, o, e3, e4⟩ := ok.cel i a _ e1 e2
    cases o <;> simp [CRel] at e4
    exact ⟨a, rfl, .inl ⟨_, .inl e3⟩⟩
  · cases e
def dGet1 : D → List D → Hap → Option D := fun a ds h => match ds with
  | [k] => match getD a h, keyD k with
    | some kvs, some k => some ((valD kvs k).getD .non)
    | _, _ => none
  | _ => none
def dGet2 : D → List D → Hap → Option D := fun a ds h => match ds with
  | [k, z] => match getD a h, keyD k with
    | some kvs, some k => some ((valD kvs k).getD z)
    | _, _ => none
  | _ => none
def gPop1 : D → List D → Hap → Rs D := fun a ds h => match a, ds with
  | .ref i, [k] => match h[i]?, keyD k with
    | some (.dct kvs), some k => match valD kvs k with
      | some v => .ok v (h.set i (.dct (dropD kvs k)))
      | none => .stuck
    | _, _ => .stuck
  | _, _ => .stuck
def gPop2 : D → List D → Hap → Rs D := fun a ds h => match a, ds with
  | .ref i, [k, z] => match h[i]?, keyD k with
    | some (.dct kvs), some k => match valD kvs k with
      | some v => .ok v (h.set i (.dct (dropD kvs k)))
      | none => .ok z h
    | _, _ => .stuck
  | _, _ => .stuck
def gSetd : D → List D → Hap → Rs D := fun a ds h => match a, ds with
  | .ref i, [k, z] => match h[i]?, keyD k with
    | some (.dct kvs), some k => if kvs.length < sizeLine then match valD kvs k with
      | some v => .ok v h
      | none => .ok z (h.set i (.dct (putD kvs k z)))
      else .stuck
    | _, _ => .stuck
  | _, _ => .stuck
theorem KVR.getD_ {K : PySem.W.Frag} {w : Wd} {vs : List (Key × V)} {ds : List (Key × D)} (r : KVR K w vs ds) (k : Key) {v : V} {d : D} (r0 : VR K w v d) : VR K w ((valV vs k).getD v) ((valD ds k).getD d) := by
  rcases r.val k with ⟨z1, z2⟩ | ⟨v, d2, z1, z2, z3⟩
  · rw [z1, z2]; exact r0
  · rw [z1, z2]; exact z3
section
variable {o e f : Expr} {apos cpos : Pos} {mo me mf : ME}
theorem e_dget1 [Tbl] (hu : X.A.units + 64 < cLine) (ho : PE X o (tE X.K X.mg W mo)) (he : PE X e (tE X.K X.mg W me)) (m : M1 X o "get" apos e cpos) : PE X (.Call (.Attribute o "get" apos) [e] [] cpos) (tE X.K X.mg W (mMet "dict" (gP dGet1) mo (mCons me mNil))) :=
  PE.imp (pe_dget1 (by omega) ho he m) fun σ H Q ⟨w, env, h, ok, er, p⟩ => ⟨w, env, h, ok, er, Post.bind p fun x da w1 H1 h1 s1 ok1 v1 p1 => by
    by_cases c : isT "dict" da h1 = true
    · rw [if_pos c] at p1
      obtain ⟨a, rfl, d⟩ := isD_of ok1 v1 c
      refine ⟨a, rfl, d, w1, env, h1, ok1, er.mono s1, ?_⟩
      unfold mCons at p1
      rw [show ∀ (r : Rs D) (f : D → Hap → Rs (List D)) (g : List D → Hap → Rs D), (r.bind f).bind g = r.bind fun x h => (f x h).bind g from fun r f g => by cases r <;> rfl] at p1
      refine Post.bind p1 fun y dk w2 H2 h2 s2 ok2 v2 p2 => ?_
      obtain ⟨dd, e1, q⟩ := ofO_post (show Post X.K X.mg (VR X.K) w2 H2 (ofO (dGet1 da [dk] h2) h2) Q _ from p2)
      unfold dGet1 at e1
      dsimp only at e1
      split at e1
      · next kvs k e2 e3 =>
        cases e1
        have q1 := keyD_ok v2 e3
        subst q1
        obtain ⟨p, i, vs, e4, e5, h1', h2', h3', r⟩ := getD_ok ok2 (v1.mono s2) e2
        cases e4
        exact ⟨_, DGet.k h3', q _ _ _ (Step.refl _ _) ok2 (r.getD_ k .non)⟩
      · cases e1
    · rw [if_neg c] at p1
      exact p1.elim⟩
theorem bind2 {α β γ : Type} (r : Rs α) (f : α → Hap → Rs β) (g : β → Hap → Rs γ) : (r.bind f).bind g = r.bind fun x h => (f x h).bind g := by cases r <;> rfl
theorem e_dget2 [Tbl] (hu : X.A.units + 64 < cLine) (ho : PE X o (tE X.K X.mg W mo)) (he : PE X e (tE X.K X.mg W me)) (hf : PE X f (tE X.K X.mg W mf)) (m : M2 X o "get" apos e f cpos) :
    PE X (.Call (.Attribute o "get" apos) [e, f] [] cpos) (tE X.K X.mg W (mMet "dict" (gP dGet2) mo (mCons me (mCons mf mNil)))) :=
  PE.imp (pe_dget2 (by omega) ho he hf m) fun σ H Q ⟨w, env, h, ok, er, p⟩ => ⟨w, env, h, ok, er, Post.bind p fun x da w1 H1 h1 s1 ok1 v1 p1 => by
    by_cases c : isT "dict" da h1 = true
    · rw [if_pos c] at p1
      obtain ⟨a, rfl, d⟩ := isD_of ok1 v1 c
      refine ⟨a, rfl, d, w1, env, h1, ok1, er.mono s1, ?_⟩
      unfold mCons at p1
      rw [bind2] at p1
      refine Post.bind p1 fun y dk w2 H2 h2 s2 ok2 v2 p2 => ⟨w2, env, h2, ok2, (er.mono s1).mono s2, ?_⟩
      rw [bind2, bind2] at p2
      refine Post.bind p2 fun z dz w3 H3 h3 s3 ok3 v3 p3 => ?_
      obtain ⟨dd, e1, q⟩ := ofO_post (show Post X.K X.mg (VR X.K) w3 H3 (ofO (dGet2 da [dk, dz] h3) h3) Q _ from p3)
      unfold dGet2 at e1
      dsimp only at e1
      split at e1
      · next kvs k e2 e3 =>
        cases e1
        have q1 := keyD_ok v2 e3
        subst q1
        obtain ⟨p, i, vs, e4, e5, h1', h2', h3', r⟩ := getD_ok ok3 ((v1.mono s2).mono s3) e2
        cases e4
        exact ⟨_, DGet.k h3', q _ _ _ (Step.refl _ _) ok3 (r.getD_ k v3)⟩
      · cases e1
    · rw [if_neg c] at p1
      exact p1.elim⟩
theorem e_dpop2 [Tbl] (ho : PE X o (tE X.K X.mg W mo)) (he : PE X e (tE X.K X.mg W me)) (hf : PE X f (tE X.K X.mg W mf)) (m : M2 X o "pop" apos e f cpos) :
    PE X (.Call (.Attribute o "pop" apos) [e, f] [] cpos) (tE X.K X.mg W (mMet "dict" gPop2 mo (mCons me (mCons mf mNil)))) :=
  PE.imp (pe_dpop2 ho he hf m) fun σ H Q ⟨w, env, h, ok, er, p⟩ => ⟨w, env, h, ok, er, Post.bind p fun x da w1 H1 h1 s1 ok1 v1 p1 => by
    by_cases c : isT "dict" da h1 = true
    · rw [if_pos c] at p1
      obtain ⟨a, rfl, d⟩ := isD_of ok1 v1 c
      refine ⟨a, rfl, d, w1, env, h1, ok1, er.mono s1, ?_⟩
      unfold mCons at p1
      rw [bind2] at p1
      refine Post.bind p1 fun y dk w2 H2 h2 s2 ok2 v2 p2 => ⟨w2, env, h2, ok2, (er.mono s1).mono s2, ?_⟩
      rw [bind2, bind2] at p2
      refine Post.bind p2 fun z dz w3 H3 h3 s3 ok3 v3 p3 => ?_
      have p4 : Post X.K X.mg (VR X.K) w3 H3 (gPop2 da [dk, dz] h3) Q _ := p3
      unfold gPop2 at p4
      split at p4
      · next a0 b0 i k z0 e9 =>
        cases e9
        split at p4
        · next kvs k e2 e3 =>
          have q1 := keyD_ok v2 e3
          subst q1
          obtain ⟨p, i, vs, e4, e5, h1', h2', h3', r⟩ := getD_ok (ds := kvs) ok3 ((v1.mono s2).mono s3) (by unfold getD; dsimp only; rw [e2])
          cases e4
          cases e5
          refine ⟨vs, k, h3', rfl, fun v hv => ?_, fun hn => ?_⟩
          · rcases r.val k with ⟨z1, z2⟩ | ⟨v', d2, z1, z2, z3⟩
            · rw [hv] at z1; cases z1
            · rw [hv] at z1
              cases z1
              rw [z2] at p4
              have zz := ok3.dwrite (by rw [h2']; exact fun _ z => nomatch z) h1' (r.drop k)
              exact p4 v w3 _ zz.2 zz.1 z3
          · rcases r.val k with ⟨z1, z2⟩ | ⟨v', d2, z1, z2, z3⟩
            · rw [z2] at p4
              exact p4 _ _ _ (Step.refl _ _) ok3 v3
            · rw [hn] at z1; cases z1
        · exact p4.elim
      · exact p4.elim
    · rw [if_neg c] at p1
      exact p1.elim⟩
theorem e_dsetd [Tbl] (ho : PE X o (tE X.K X.mg W mo)) (he : PE X e (tE X.K X.mg W me)) (hf : PE X f (tE X.K X.mg W mf)) (m : M2 X o "setdefault" apos e f cpos) :
    PE X (.Call (.Attribute o "setdefault" apos) [e, f] [] cpos) (tE X.K X.mg W (mMet "dict" gSetd mo (mCons me (mCons mf mNil)))) :=
  PE.imp (pe_dsetd ho he hf m) fun σ H Q ⟨w, env, h, ok, er, p⟩ => ⟨w, env, h, ok, er, Post.bind p fun x da w1 H1 h1 s1 ok1 v1 p1 => by
    by_cases c : isT "dict" da h1 = true
    · rw [if_pos c] at p1
      obtain ⟨a, rfl, d⟩ := isD_of ok1 v1 c
      refine ⟨a, rfl, d, w1, env, h1, ok1, er.mono s1, ?_⟩
      unfold mCons at p1
      rw [bind2] at p1
      refine Post.bind p1 fun y dk w2 H2 h2 s2 ok2 v2 p2 => ⟨w2, env, h2, ok2, (er.mono s1).mono s2, ?_⟩
      rw [bind2, bind2] at p2
      refine Post.bind p2 fun z dz w3 H3 h3 s3 ok3 v3 p3 => ?_
      have p4 : Post X.K X.mg (VR X.K) w3 H3 (gSetd da [dk, dz] h3) Q _ := p3
      unfold gSetd at p4
      split at p4
      · next a0 b0 i k z0 e9 =>
        cases e9
        split at p4
        · next kvs k e2 e3 =>
          have q1 := keyD_ok v2 e3
          subst q1
          obtain ⟨p, i, vs, e4, e5, h1', h2', h3', r⟩ := getD_ok (ds := kvs) ok3 ((v1.mono s2).mono s3) (by unfold getD; dsimp only; rw [e2])
          cases e4
          cases e5
          split at p4
          · next hl =>
            refine ⟨vs, k, h3', rfl, by rw [r.len]; exact hl, fun v hv => ?_, fun hn => ?_⟩
            · rcases r.val k with ⟨z1, z2⟩ | ⟨v', d2, z1, z2, z3⟩
              · rw [hv] at z1; cases z1
              · rw [hv] at z1
                cases z1
                rw [z2] at p4
                exact p4 _ _ _ (Step.refl _ _) ok3 z3
            · rcases r.val k with ⟨z1, z2⟩ | ⟨v', d2, z1, z2, z3⟩
              · rw [z2] at p4
                have zz := ok3.dwrite (by rw [h2']; exact fun _ z => nomatch z) h1' (r.put v3 k)
                exact p4 _ w3 _ zz.2 zz.1 v3
              · rw [hn] at z1; cases z1
          · exact p4.elim
        · exact p4.elim
      · exact p4.elim
    · rw [if_neg c] at p1
      exact p1.elim⟩
end
end
end
end Vi

set_option Elab.async false
set_option linter.all false
set_option autoImplicit false
set_option maxRecDepth 100000
set_option maxHeartbeats 2000000
namespace Vi
open PySem PySem.Spec PySem.Calls PyProof.Rows L2 L2.DX
open scoped Classical
noncomputable section
variable {gm : Str → Option Value}
/-! ### sorted(d.items()) -/
mutual
theorem dp_keep {K : PySem.W.Frag} {H H' : Hp} (k : ∀ b o, H b = some o → H' b = some o) : ∀ {v : V} {d : PyData}, Dp K H v d → Dp K H' v d
  | _, _, .non => .non
  | _, _, .bl b => .bl b
  | _, _, .int i => .int i
  | _, _, .str i => .str i
  | _, _, .lst e t => .lst (sqL_mono k e) (dps_keep k t)
  | _, _, .tup e t => .tup (sqT_mono k e) (dps_keep k t)
theorem dps_keep {K : PySem.W.Frag} {H H' : Hp} (k : ∀ b o, H b = some o → H' b = some o) : ∀ {v : List V} {d : List PyData}, DpAll K H v d → DpAll K H' v d
  | _, _, .nil => .nil
  | _, _, .cons a b => .cons (dp_keep k a) (dps_keep k b)
end
section
variable {X : Cx}
def rItemsK : V → List V → Hp → VK → Prop := fun x xs H Q => ∃ (a : Addr) (kvs : List (Key × V)), x = .ref a ∧ xs = [] ∧ H a = some (.dK kvs) ∧ ∀ p, H p = none → Q (.ref p) (upd H p (itemsO p a))
theorem mt_itemsK : MtR X "dict.items" rItemsK := by
  intro pins s σ H x xs v us Q I rx rxs h
  obtain ⟨a, kvs, rfl, rfl, ha, q⟩ := h
  cases rx
  cases rxs
  obtain ⟨hz, hs0, vs, kv, hdo⟩ := I.hok a _ ha
  obtain ⟨ep, hat⟩ := hdo.dictAt
  have hf : H s.heap.objs.size = none := I.hok.fresh (Nat.le_refl _)
  refine call_meetsIn F.slot_dict_items hdo.typeIs F.entry_dict_items (F.args_dict_items_1 _) (meets_dict_items (mixKind X.prog X.w) a hs0) ⟨⟨vs, hdo⟩, ?_⟩
  exact ⟨.ref s.heap.objs.size, upd H s.heap.objs.size (itemsO s.heap.objs.size a), I.laid (t' := s.toks) (fun b u e => Heap.get?_push_of_some _ e) (Nat.le_refl _) (itemsO_ok (Heap.get?_push_size _ rfl)), rfl, q _ hf⟩
theorem items_laid0 {pins : List (Addr × Obj)} {σ : L2.St} {H : Hp} {s : Shared} {h' : Heap} {tk : Nat} {kvs : List (Key × V)} {vs : List (Key × Value)} {as : List Addr} (I : Inv X pins σ H s) (kv : KV kvs vs)
    (hk : ∀ b o, s.heap.get? b = some o → h'.get? b = some o) (hl : as.length = vs.length) (hG : PySem.W.KdxG (mixKind X.prog X.w) vs s.heap.objs.size h' as) :
    ∃ H' : Hp, (∀ b o, H b = some o → H' b = some o) ∧ (∀ t ∈ as, H t = none) ∧ Paired (fun (t : Addr) (q : Key × V) => H' t = some (.tup [kV q.1, q.2])) as kvs ∧ Inv X pins σ H' { s with heap := h', toks := tk } := by
  have lk : kvs.length = vs.length := Paired.length kv
  have nd : as.Nodup := List.Pairwise.imp (fun {a b} (h : a < b) => Nat.ne_of_lt h) hG.rise
  have new : ∀ t ∈ as, H t = none := fun t ht => I.hok.fresh (Nat.le_of_lt (hG.above t ht))
  have atP := LiI.putT_at as kvs H (by omega) nd
  have off : ∀ b, b ∉ as → LiI.putT H as kvs b = H b := fun b h1 => LiI.putT_off as kvs _ h1
  have low : ∀ b o, s.heap.get? b = some o → b ∉ as := fun b o e z => absurd (Heap.lt_size e) (Nat.not_lt.mpr (Nat.le_of_lt (hG.above b z)))
  have kp : ∀ b u, H b = some u → (LiI.putT H as kvs) b = some u := fun b u e => by
    rw [off b (fun z => by rw [new b z] at e; cases e)]
    exact e
  refine ⟨LiI.putT H as kvs, kp, new, atP, ?_⟩
  refine I.call' (ch := []) rfl ⟨fun b o q _ _ _ => hk b o q, fun b o q _ _ _ => ⟨o.slots, hk b o q⟩, fun b o q n _ => ?_, fun b o q _ => ⟨o, hk b o q⟩, fun b xs q => kp b _ q, fun b o u q => kp b _ q, fun b ps q => ⟨#[], by rw [kp b _ q]; simp⟩⟩ (fun b u q => ?_) I.bare fun b z => by simp at z
  · rw [off b (low b o q)]
    exact n
  · by_cases hb : b ∈ as
    · obtain ⟨j, pk, e1, e2, e3⟩ := LiI.paired_ix atP hb
      rw [e3] at q
      cases q
      obtain ⟨key, k, x, f1, f2, f3⟩ := hG.pairs j b e1
      obtain ⟨qv, g1, g2, g3⟩ := LiI.paired_get kv e2
      rw [f1] at g1
      cases g1
      have rk : RelV (kV pk.1) key := by
        rw [g2]
        exact relV_key (show keyIs k key = true from f2)
      exact ⟨by show 2 ≤ sizeLine; decide, [key, x], .cons rk (.cons g3 .nil), ⟨_, f3, rfl, _, rfl⟩⟩
    · rw [off b hb] at q
      exact (I.hok b u q).stay (fun d v _ y => hk d v y) (fun d y => kp d _ y) fun d xs y => kp d _ y
def keyP : Key → PyData
  | .inl i => .int i
  | .inr x => .str x
/-- the pairs as data: es pairs each entry with the data of its value -/
def itP (e : (Key × V) × PyData) : PyData := .tuple [keyP e.1.1, e.2]
def rSortItK (K : PySem.W.Frag) : List V → Hp → VK → Prop := fun vs H Q => ∃ (p a : Addr) (es : List ((Key × V) × PyData)), vs = [.ref p] ∧ H p = some (itemsO p a) ∧ H a = some (.dK (es.map Prod.fst)) ∧ (∀ e ∈ es, Dp K H e.1.2 e.2) ∧
  PySem.W.AllAlike (es.map itP) ∧ PySem.W.Sortable (es.map itP) ∧ (∀ e ∈ es, (itP e).depth ≤ 40) ∧ es.length ≤ sizeLine ∧
  ∀ (H' : Hp) (q : Addr) (ts : List Addr), (∀ b o, H b = some o → H' b = some o) → H q = none → (∀ t ∈ ts, H t = none) → ts.length = es.length → (∀ z ∈ ts.zip es, H' z.1 = some (.tup [kV z.2.1.1, z.2.1.2])) →
    H' q = some (.lst (((ts.zip es).mergeSort (PySem.W.dataLe false fun b => itP b.2)).map fun b => V.ref b.1)) → Q (.ref q) H'
theorem dp_key {K : PySem.W.Frag} {H : Hp} (k : Key) : Dp K H (kV k) (keyP k) := by
  cases k with
  | inl i => exact .int i
  | inr x => exact .str x
theorem paired_zip {α β : Type} {F : α → β → Prop} : ∀ {xs : List α} {ys : List β}, Paired F xs ys → ∀ z ∈ xs.zip ys, F z.1 z.2
  | _, _, .nil, z, m => by simp at m
  | _, _, .cons h t, z, m => by
    rw [List.zip_cons_cons] at m
    rcases List.mem_cons.mp m with rfl | m
    · exact h
    · exact paired_zip t z m
theorem each_refs {β : Type} : ∀ {ts : List Addr} {es : List β}, ts.length = es.length → PySem.W.EachIs (fun (u : Value) (b : Addr × β) => u = .ref b.1) (ts.map Value.ref) (ts.zip es)
  | [], [], _ => .nil
  | [], _ :: _, h => by cases h
  | _ :: _, [], h => by cases h
  | t :: ts, e :: es, h => .cons rfl (each_refs (Nat.succ.inj h))
theorem refs_of_each {β : Type} : ∀ {us : List Value} {bs : List (Addr × β)}, PySem.W.EachIs (fun (u : Value) (b : Addr × β) => u = .ref b.1) us bs → Vals (bs.map fun b => V.ref b.1) us
  | _, _, .nil => .nil
  | _, _, .cons a b => .cons a (refs_of_each b)
theorem cr_sortItK (hc : X.calm = true) (hu : X.A.units + 64 < cLine) : CallR X (.builtin "sorted") (rSortItK X.K) := by
  intro pins s σ H xs us Q I r h
  obtain ⟨p, a, es, rfl, hp, ha, hv, hal, hab, hdp, hfew, q⟩ := h
  obtain rfl := Vals.ref1 r
  have view : s.heap.IsItemsView p a := (show ObjOk X.prog X.w H s.heap p (itemsO p a) from I.hok p _ hp).1
  obtain ⟨hz, hs0, vs, kv, hdo⟩ := I.hok a _ ha
  obtain ⟨ep, hat⟩ := hdo.dictAt
  have lk : (es.map Prod.fst).length = vs.length := Paired.length kv
  rw [List.length_map] at lk
  refine call_function_entry PyProof.Rows.kind_sorted PyProof.Rows.plain_sorted PyProof.Rows.entry_sorted (PyProof.Rows.args_sorted1 _) ?_
  unfold Builtin.«sorted»
  refine wpAny_bind (m := checkCount "sorted" 1 1 _) (wpAny_pure ?_)
  refine wpAny_bind (PySem.W.kdx_collect (A := X.A.in1) (knd := mixKind X.prog X.w) (kvs := vs) (ep := ep) (I.ok.hd hc) view hat (by omega) fun h' tk as hk hl hG => ?_)
  refine wpAny_bind (wpAny_newList ?_ (by rw [List.length_map, hl]; omega))
  obtain ⟨H1, k1, k2, k3, I1⟩ := items_laid0 (tk := tk) I kv hk hl hG
  have las : as.length = es.length := by omega
  have k3' : ∀ z ∈ as.zip es, H1 z.1 = some (.tup [kV z.2.1.1, z.2.1.2]) := fun z m => by
    have m2 : (z.1, z.2.1) ∈ as.zip (es.map Prod.fst) := by
      rw [List.zip_map_right]
      exact List.mem_map.mpr ⟨z, m, rfl⟩
    exact paired_zip k3 _ m2
  have zm : (as.zip es).map (fun b => itP b.2) = es.map itP := by
    conv => rhs; rw [← show (as.zip es).map Prod.snd = es by rw [List.map_snd_zip]; omega]
    rw [List.map_map]
    rfl
  -- the list to be sorted
  have hob : (h'.push { cls := .type "list", data := .seq (as.map Value.ref).toArray }).get? h'.objs.size = some (seqObj "list" (as.map Value.ref).toArray 0) := Heap.get?_push_size _ rfl
  have er : PySem.W.EachIs (fun v (b : Addr × ((Key × V) × PyData)) => ∃ ad, Reads (PySem.W.sortingHeap (h'.push { cls := .type "list", data := .seq (as.map Value.ref).toArray }) h'.objs.size (as.map Value.ref)) v (itP b.2) ad) (as.map Value.ref) (as.zip es) := by
    have go : ∀ {us : List Value} {bs : List (Addr × ((Key × V) × PyData))}, PySem.W.EachIs (fun (u : Value) (b : Addr × ((Key × V) × PyData)) => u = .ref b.1) us bs → (∀ b ∈ bs, b ∈ as.zip es) →
        PySem.W.EachIs (fun v (b : Addr × ((Key × V) × PyData)) => ∃ ad, Reads (PySem.W.sortingHeap (h'.push { cls := .type "list", data := .seq (as.map Value.ref).toArray }) h'.objs.size (as.map Value.ref)) v (itP b.2) ad) us bs := by
      intro us bs z
      induction z with
      | nil => exact fun _ => .nil
      | @cons u b us bs e t ih =>
        intro hb
        refine .cons ?_ (ih fun b m => hb b (List.mem_cons_of_mem _ m))
        have hm := hb b List.mem_cons_self
        have hme : b.2 ∈ es := (List.of_mem_zip hm).2
        have dp : Dp X.K H1 (.ref b.1) (itP b.2) := .tup (.inl (.inl (k3' b hm))) (.cons (dp_key _) (.cons (dp_keep k1 (hv b.2 hme)) .nil))
        obtain ⟨ad, rd⟩ := Dp.reads I1 _ _ u dp e
        exact ⟨ad, PyProof.Rows.Reads.keeps (fun b o e => PySem.W.sortingHeap_old (Nat.ne_of_lt (Heap.lt_size e)) (Heap.get?_push_of_some _ e)) rd⟩
    exact go (each_refs las) fun _ m => m
  refine wpAny_bind (wpAny_holding (wpAny_mono (Q := fun v s' => EP X pins σ Q (.ref h'.objs.size) s') (wpAny_call_entry PyProof.Rows.slot_list_sort ⟨_, hob, rfl⟩ PyProof.Rows.entry_list_sort
    (PySem.W.list_sort_vals (κ := PySem.W.dataKind (PySem.W.sortingHeap (h'.push { cls := .type "list", data := .seq (as.map Value.ref).toArray }) h'.objs.size (as.map Value.ref)) ((as.zip es).map fun b => itP b.2)) hob
      (PySem.W.SortsAt.data (s := { s with heap := PySem.W.sortingHeap (h'.push { cls := .type "list", data := .seq (as.map Value.ref).toArray }) h'.objs.size (as.map Value.ref), toks := tk }) (PySem.W.each_map (fun b : Addr × ((Key × V) × PyData) => itP b.2) er) (by rw [zm]; exact hal) (by rw [zm]; exact hab) ?_) (by rw [List.length_map]; omega) ⟨.none, rfl, ?_⟩) (PyProof.Rows.args_list_sort _)) (fun _ s' x => ?_) fun _ _ e => e))
  · intro d hd
    rw [zm] at hd
    obtain ⟨e, he, rfl⟩ := List.mem_map.mp hd
    have := hdp e he
    show X.A.units + 1 + 1 + _ < cLine
    omega
  · have eo := PySem.W.sortVals_data false (each_refs las) er (by rw [zm]; exact hal)
    have lo : (PySem.W.sortVals (PySem.W.dataKind (PySem.W.sortingHeap (h'.push { cls := .type "list", data := .seq (as.map Value.ref).toArray }) h'.objs.size (as.map Value.ref)) ((as.zip es).map fun b => itP b.2)) false (as.map Value.ref) (as.map Value.ref)).length ≤ sizeLine := by
      rw [PySem.W.sortVals_length false rfl, List.length_map]; omega
    have vo := refs_of_each eo
    obtain ⟨n, hn⟩ := PyProof.Rows.sortedHeap_at (out := (PySem.W.sortVals (PySem.W.dataKind (PySem.W.sortingHeap (h'.push { cls := .type "list", data := .seq (as.map Value.ref).toArray }) h'.objs.size (as.map Value.ref)) ((as.zip es).map fun b => itP b.2)) false (as.map Value.ref) (as.map Value.ref)).toArray) hob
    have fB : H1 h'.objs.size = none := I1.hok.fresh (Nat.le_refl _)
    have fB0 : H h'.objs.size = none := by
      cases z : H h'.objs.size with
      | none => rfl
      | some o => rw [k1 _ _ z] at fB; cases fB
    have off : ∀ b, b ≠ h'.objs.size → upd H1 h'.objs.size (HO.lst (((as.zip es).mergeSort (PySem.W.dataLe false fun b => itP b.2)).map fun b => V.ref b.1)) b = H1 b := fun b hb => upd_ne hb
    refine ⟨.ref h'.objs.size, upd H1 h'.objs.size (.lst (((as.zip es).mergeSort (PySem.W.dataLe false fun b => itP b.2)).map fun b => V.ref b.1)), I1.laid (t' := tk) (fun b o e => ?_) (Nat.le_refl _) ?_, rfl, q _ _ as (fun b o e => ?_) fB0 k2 las (fun z m => ?_) upd_same⟩
    · exact (PyProof.Rows.sortedHeap_old (Nat.ne_of_lt (Heap.lt_size e)) (Heap.lt_size (Heap.get?_push_of_some _ e))).trans (Heap.get?_push_of_some _ e)
    · exact ⟨by rw [List.length_map, List.length_mergeSort, List.length_zip]; omega, _, n, vo, hn⟩
    · rw [off b (ne_of_none e fB0)]
      exact k1 b o e
    · rw [off z.1 (ne_of_none (k3' z m) fB)]
      exact k3' z m
  · exact wpAny_pure ⟨_, rfl, x⟩
/-- at the data -/
def itD (kv : Key × D) : D := .tup [keyV kv.1, kv.2]
def dSortIt : List D → Hap → Option D := fun ds h => match ds with
  | [d] => (getD d h).bind fun kvs => if Srt (kvs.map itD) then some (.lst ((kvs.map itD).mergeSort leD)) else none
  | _ => none
def mSortIt (a : ME) : ME := fun env h => (a env h).bind fun x h1 => ofO (dSortIt [x] h1) h1
theorem py_keyV (k : Key) : (keyV k).py = some (keyP k) := by cases k <;> rfl
theorem pyd_it (kv : Key × D) {d : PyData} (e : kv.2.py = some d) : pyd (itD kv) = .tuple [keyP kv.1, d] ∧ (itD kv).py = some (.tuple [keyP kv.1, d]) := by
  have : (itD kv).py = some (.tuple [keyP kv.1, d]) := by
    unfold itD D.py D.pys
    rw [py_keyV]
    unfold D.pys
    rw [e]
    rfl
  exact ⟨by unfold pyd; rw [this]; rfl, this⟩
theorem py_snd {kv : Key × D} (e : (itD kv).py = some (pyd (itD kv))) : ∃ d, kv.2.py = some d := by
  unfold itD D.py D.pys at e
  rw [py_keyV] at e
  unfold D.pys at e
  cases q : kv.2.py with
  | none => rw [q] at e; simp [D.pys] at e
  | some d => exact ⟨d, rfl⟩
theorem zip3 {K : PySem.W.Frag} {w : Wd} : ∀ {vs : List (Key × V)} {ds : List (Key × D)}, KVR K w vs ds → ∀ z ∈ vs.zip ds, z.1.1 = z.2.1 ∧ VR K w z.1.2 z.2.2
  | _, _, .nil, z, m => by simp at m
  | _, _, .cons a t, z, m => by
    rw [List.zip_cons_cons] at m
    rcases List.mem_cons.mp m with rfl | m
    · exact ⟨rfl, a⟩
    · exact zip3 t z m
theorem vrs_map {K : PySem.W.Frag} {w : Wd} {β : Type} {f : β → V} {g : β → D} : ∀ {l : List β}, (∀ b ∈ l, VR K w (f b) (g b)) → VRs K w (l.map f) (l.map g)
  | [], _ => .nil
  | b :: l, h => .cons (h b List.mem_cons_self) (vrs_map fun q m => h q (List.mem_cons_of_mem _ m))
theorem e_sortIt [Tbl] {W : WX} {e : Expr} {m : ME} {p apos cpos pos : Pos} (hc : X.calm = true) (hu : X.A.units + 64 < cLine) (he : PE X e (tE X.K X.mg W m)) (hg : Gl X "sorted") (hm : X.mg "sorted" = none)
    (hbase : attributeBase e "items" X.env (eval e X.env) = eval e X.env := by rfl) (hline : (apos.endLine == cpos.line) = true := by rfl)
    (hst : starEach [.Call (.Attribute e "items" apos) [] [] cpos] X.env = (false, eval (.Call (.Attribute e "items" apos) [] [] cpos) X.env) :: starEach [] X.env := by rfl) (hpl : (backTo pos (starEach [] X.env)).any (·.1) = false := by rfl) :
    PE X (.Call (.Name "sorted" p) [.Call (.Attribute e "items" apos) [] [] cpos] [] pos) (tE X.K X.mg W (mSortIt m)) := by
  refine PE.imp (pe_callB (cr_sortItK hc hu) hg hm rfl (pa_cons (pe_bm0 PySem.F.plainAttrs_dict PySem.F.slot_dict_items PySem.F.type_dict_items mt_itemsK he hbase hline) pa_nil hst) (by decide) (by decide) hst hpl) fun σ H Q ⟨w, env, h, ok, er, p⟩ => ?_
  refine ⟨w, env, h, ok, er, Post.bind p fun x da w1 H1 h1 s1 ok1 v1 p1 => ?_⟩
  obtain ⟨d, e1, q⟩ := ofO_post p1
  unfold dSortIt at e1
  dsimp only at e1
  obtain ⟨kvs, e2, e3⟩ := Option.bind_eq_some_iff.mp e1
  split at e3
  · next hS =>
    cases e3
    obtain ⟨a, i, vs, rfl, rfl, hr, hi, ha, r⟩ := getD_ok ok1 v1 e2
    refine ⟨.inr (.inr (.inl ⟨by decide, .inl ⟨_, ha⟩⟩)), a, vs, rfl, rfl, ha, fun pv hpv => ?_⟩
    have sm : ∀ b o, H1 b = some o → upd H1 pv (itemsO pv a) b = some o := fun b o e => by rw [upd_ne (ne_of_none e hpv)]; exact e
    have hls := r.len
    have zs : (vs.zip kvs).map Prod.snd = kvs := by rw [List.map_snd_zip]; omega
    have zf : (vs.zip kvs).map Prod.fst = vs := by rw [List.map_fst_zip]; omega
    have zr := zip3 r
    have pz : ∀ z ∈ vs.zip kvs, z.2.2.py = some (pyd z.2.2) ∧ pyd (itD z.2) = .tuple [keyP z.2.1, pyd z.2.2] := fun z m => by
      have m2 : z.2 ∈ kvs := by rw [← zs]; exact List.mem_map.mpr ⟨z, m, rfl⟩
      obtain ⟨d, hd⟩ := py_snd (hS.py _ (List.mem_map.mpr ⟨z.2, m2, rfl⟩))
      have e : pyd z.2.2 = d := by unfold pyd; rw [hd]; rfl
      rw [e]
      exact ⟨hd, (pyd_it z.2 hd).1⟩
    have em : ((vs.zip kvs).map fun z => (z.1, pyd z.2.2)).map itP = (kvs.map itD).map pyd := by
      conv => rhs; rw [← zs]
      rw [List.map_map, List.map_map, List.map_map]
      refine List.map_congr_left fun z m => ?_
      show itP (z.1, pyd z.2.2) = pyd (itD z.2)
      rw [(pz z m).2]
      unfold itP
      rw [(zr z m).1]
    have el : ((vs.zip kvs).map fun z => (z.1, pyd z.2.2)).length = kvs.length := by rw [List.length_map, List.length_zip]; omega
    refine ⟨pv, a, (vs.zip kvs).map fun z => (z.1, pyd z.2.2), rfl, upd_same, ?_, fun e m => ?_, ?_, ?_, ?_, ?_, ?_⟩
    · rw [upd_ne (ne_of_none ha hpv), ha, List.map_map]
      congr 2
      conv => lhs; rw [← zf]
      rfl
    · obtain ⟨z, m2, rfl⟩ := List.mem_map.mp m
      exact dp_keep sm (VR.dp ok1.sub (zr z m2).2 (pz z m2).1)
    · rw [em]; exact hS.alike
    · rw [em]; exact hS.able
    · intro e m
      have m2 : itP e ∈ (kvs.map itD).map pyd := by rw [← em]; exact List.mem_map.mpr ⟨e, m, rfl⟩
      obtain ⟨y, m3, e3⟩ := List.mem_map.mp m2
      rw [← e3]
      exact hS.deep y m3
    · rw [el]; have := hS.few; rw [List.length_map] at this; exact this
    · intro H' qa ts hk hqa hts hlt htp hq
      have k1 : ∀ b o, H1 b = some o → H' b = some o := fun b o e => hk b o (sm b o e)
      have n0 : ∀ b, upd H1 pv (itemsO pv a) b = none → H1 b = none := fun b e => by
        cases z : H1 b with
        | none => rfl
        | some o => rw [sm b o z] at e; cases e
      let F' : Hp := fun b => if b = qa ∨ b ∈ ts then H' b else w1.F b
      have f0 : ∀ b, b = qa ∨ b ∈ ts → H1 b = none := fun b hb => by
        rcases hb with rfl | hb
        · exact n0 _ hqa
        · exact n0 _ (hts b hb)
      have g := ok1.grow (F' := F') (H' := H') k1 (fun b o e => by
          show (if b = qa ∨ b ∈ ts then H' b else w1.F b) = some o
          by_cases hb : b = qa ∨ b ∈ ts
          · have := f0 b hb; rw [ok1.sub b o e] at this; cases this
          · rw [if_neg hb]; exact e) (fun b o e => by
          have e : (if b = qa ∨ b ∈ ts then H' b else w1.F b) = some o := e
          by_cases hb : b = qa ∨ b ∈ ts
          · rw [if_pos hb] at e; exact e
          · rw [if_neg hb] at e; exact k1 b o (ok1.sub b o e)) (fun b o e => by
          have e : (if b = qa ∨ b ∈ ts then H' b else w1.F b) = some o := e
          by_cases hb : b = qa ∨ b ∈ ts
          · exact .inr (f0 b hb)
          · rw [if_neg hb] at e; exact .inl e)
      refine q (.ref qa) _ _ g.2 g.1 ?_
      have st := g.2
      refine .lst (vs := ((ts.zip ((vs.zip kvs).map fun z => (z.1, pyd z.2.2))).mergeSort (PySem.W.dataLe false fun b => itP b.2)).map fun b => V.ref b.1) (by show (if qa = qa ∨ qa ∈ ts then H' qa else w1.F qa) = _; rw [if_pos (.inl rfl)]; exact hq) ?_
      -- the sorted pairs, seen with their data
      have e5 : ts.zip ((vs.zip kvs).map fun z => (z.1, pyd z.2.2)) = (ts.zip (vs.zip kvs)).map fun y => (y.1, (y.2.1, pyd y.2.2.2)) := by
        rw [List.zip_map_right]; rfl
      have hl3 : ts.length = (vs.zip kvs).length := by rw [el] at hlt; rw [List.length_zip]; omega
      have z3 : (ts.zip (vs.zip kvs)).map Prod.snd = vs.zip kvs := by rw [List.map_snd_zip]; omega
      rw [e5]
      have e6 : ((ts.zip (vs.zip kvs)).map fun y => (y.1, (y.2.1, pyd y.2.2.2))).mergeSort (PySem.W.dataLe false fun b => itP b.2) =
          ((ts.zip (vs.zip kvs)).mergeSort fun x y => leD (itD x.2.2) (itD y.2.2)).map fun y => (y.1, (y.2.1, pyd y.2.2.2)) := by
        refine (PySem.W.sort_maps (r := fun x y : Addr × ((Key × V) × (Key × D)) => leD (itD x.2.2) (itD y.2.2)) (s := PySem.W.dataLe false fun b : Addr × ((Key × V) × PyData) => itP b.2) (fun y => (y.1, (y.2.1, pyd y.2.2.2))) (l := ts.zip (vs.zip kvs)) fun x hx y hy => ?_).symm
        have mx : x.2 ∈ vs.zip kvs := (List.of_mem_zip hx).2
        have my : y.2 ∈ vs.zip kvs := (List.of_mem_zip hy).2
        show PySem.W.dataLe false pyd (itD x.2.2) (itD y.2.2) = PySem.W.dataLe false (fun b : Addr × ((Key × V) × PyData) => itP b.2) _ _
        have ex : pyd (itD x.2.2) = itP (x.2.1, pyd x.2.2.2) := by rw [(pz _ mx).2, ← (zr _ mx).1]; rfl
        have ey : pyd (itD y.2.2) = itP (y.2.1, pyd y.2.2.2) := by rw [(pz _ my).2, ← (zr _ my).1]; rfl
        simp only [PySem.W.dataLe, PySem.W.sortLe, ex, ey]
      have e7 : (kvs.map itD).mergeSort leD = ((ts.zip (vs.zip kvs)).mergeSort fun x y => leD (itD x.2.2) (itD y.2.2)).map fun y => itD y.2.2 := by
        have z4 : kvs.map itD = (ts.zip (vs.zip kvs)).map fun y => itD y.2.2 := by
          conv => lhs; rw [← zs, ← z3]
          rw [List.map_map, List.map_map]
          rfl
        rw [z4]
        exact (PySem.W.sort_maps (fun y : Addr × ((Key × V) × (Key × D)) => itD y.2.2) (l := ts.zip (vs.zip kvs)) fun _ _ _ _ => rfl).symm
      rw [e6, e7, List.map_map]
      refine vrs_map fun y my => ?_
      have my2 : y ∈ ts.zip (vs.zip kvs) := List.mem_mergeSort.mp my
      have m4 : (y.1, (y.2.1, pyd y.2.2.2)) ∈ ts.zip ((vs.zip kvs).map fun z => (z.1, pyd z.2.2)) := by rw [e5]; exact List.mem_map.mpr ⟨y, my2, rfl⟩
      have m5 : y.2 ∈ vs.zip kvs := (List.of_mem_zip my2).2
      have m6 : y.1 ∈ ts := (List.of_mem_zip my2).1
      have hp := htp _ m4
      refine .tup (vs := [kV y.2.1.1, y.2.1.2]) (.inl (.inl (by show (if y.1 = qa ∨ y.1 ∈ ts then H' y.1 else w1.F y.1) = _; rw [if_pos (.inr m6)]; exact hp))) (.cons ?_ (.cons (((zr _ m5).2).mono st) .nil))
      rw [(zr _ m5).1]
      exact vr_keyV _
  · cases e3
end
/-! ### x in xs, deep -/
def inDO (a b : D) (h : Hap) : Option Bool := match pyOf a h, pyOf b h with
  | some d, some (.list ds) => if SeqAt.shaped d = true ∧ SeqAt.shaped (.list ds) = true then some (ds.any fun z => PyData.eqv z d) else none
  | _, _ => none
def dInD : D → D → Hap → Option D := fun a b h => (inDO a b h).map .bl
def dNotInD : D → D → Hap → Option D := fun a b h => (inDO a b h).map fun b => .bl (!b)
theorem units65 {k : Nat} {A : Around} (r : Room k A) : A.units + 65 < cLine := by have := r.un; omega
theorem s_inD [Tbl] {K : PySem.W.Frag} : OpS K (rInD K) dInD := by
  intro w H h x y a b d Q ok vx vy e0 q
  obtain ⟨z, e, ez⟩ := Option.map_eq_some_iff.mp e0
  subst ez
  unfold inDO at e
  split at e
  · next d ds e1 e2 =>
    split at e
    · next hs =>
      cases e
      exact ⟨d, ds, pyOf_ok ok vx e1, pyOf_ok ok vy e2, hs.1, hs.2, q _ _ _ (Step.refl _ _) ok (.bl _)⟩
    · cases e
  · cases e
theorem s_notInD [Tbl] {K : PySem.W.Frag} : OpS K (rNotInD K) dNotInD := by
  intro w H h x y a b d Q ok vx vy e0 q
  obtain ⟨z, e, ez⟩ := Option.map_eq_some_iff.mp e0
  subst ez
  unfold inDO at e
  split at e
  · next d ds e1 e2 =>
    split at e
    · next hs =>
      cases e
      exact ⟨d, ds, pyOf_ok ok vx e1, pyOf_ok ok vy e2, hs.1, hs.2, q _ _ _ (Step.refl _ _) ok (.bl _)⟩
    · cases e
  · cases e
end
end Vi

set_option Elab.async false
set_option linter.all false
set_option autoImplicit false
set_option maxRecDepth 100000
set_option maxHeartbeats 2000000
namespace Vi
open PySem PySem.Spec PyProof.Rows L2
open scoped Classical
noncomputable section
variable {gm : Str → Option Value}
/-! ### objects of own classes: fields -/
def insOf (d : D) (h : Hap) : Option (Str × List (Str × D)) := match d with
  | .ref i => match h[i]? with
    | some (.ins c fs) => some (c, fs)
    | _ => none
  | _ => none
def fldD (c f : Str) : D → Hap → Option D := fun d h => match insOf d h with
  | some (c', fs) => if c' = c then fs.lookup f else none
  | none => none
def putFD (f : Str) (v : D) : List (Str × D) → List (Str × D)
  | [] => [(f, v)]
  | (g, x) :: r => if g = f then (g, v) :: r else (g, x) :: putFD f v r
section
variable {K : PySem.W.Frag} {w : Wd} {H : Hp} {h : Hap} {x : V} {d : D} {c : Str} {fds : List (Str × D)}
inductive FRel (K : PySem.W.Frag) (w : Wd) : List (Str × V) → List (Str × D) → Prop
  | nil : FRel K w [] []
  | cons {k : Str} {v : V} {d : D} {vs : List (Str × V)} {ds : List (Str × D)} : VR K w v d → FRel K w vs ds → FRel K w ((k, v) :: vs) ((k, d) :: ds)
theorem frel_of : ∀ {vs : List (Str × V)} {ds : List (Str × D)}, vs.map Prod.fst = ds.map Prod.fst → VRs K w (vs.map Prod.snd) (ds.map Prod.snd) → FRel K w vs ds
  | [], [], _, _ => .nil
  | [], _ :: _, h, _ => by simp at h
  | _ :: _, [], h, _ => by simp at h
  | (k, v) :: vs, (k2, d) :: ds, h, r => by
    simp only [List.map_cons, List.cons.injEq] at h
    obtain ⟨rfl, h⟩ := h
    rw [List.map_cons, List.map_cons] at r
    cases r with
    | cons a b => exact .cons a (frel_of h b)
theorem FRel.fst : ∀ {vs : List (Str × V)} {ds : List (Str × D)}, FRel K w vs ds → vs.map Prod.fst = ds.map Prod.fst
  | _, _, .nil => rfl
  | _, _, .cons _ t => by rw [List.map_cons, List.map_cons, t.fst]
theorem FRel.snd : ∀ {vs : List (Str × V)} {ds : List (Str × D)}, FRel K w vs ds → VRs K w (vs.map Prod.snd) (ds.map Prod.snd)
  | _, _, .nil => .nil
  | _, _, .cons a t => by rw [List.map_cons, List.map_cons]; exact .cons a t.snd
theorem FRel.len {vs : List (Str × V)} {ds : List (Str × D)} (r : FRel K w vs ds) : vs.length = ds.length := by
  have := congrArg List.length r.fst
  simpa using this
theorem FRel.mono {w' : Wd} {H H' : Hp} (s : Step w H w' H') : ∀ {vs : List (Str × V)} {ds : List (Str × D)}, FRel K w vs ds → FRel K w' vs ds
  | _, _, .nil => .nil
  | _, _, .cons a t => .cons (a.mono s) (t.mono s)
theorem FRel.look : ∀ {vs : List (Str × V)} {ds : List (Str × D)} (f : Str), FRel K w vs ds → (vs.lookup f = none ∧ ds.lookup f = none) ∨ ∃ v d, vs.lookup f = some v ∧ ds.lookup f = some d ∧ VR K w v d
  | _, _, _, .nil => .inl ⟨rfl, rfl⟩
  | (k0, v) :: vs, (_, d) :: ds, f, .cons a t => by
    rw [List.lookup_cons, List.lookup_cons]
    by_cases e : f = k0
    · subst e
      right
      exact ⟨v, d, by simp, by simp, a⟩
    · have e2 : (f == k0) = false := beq_eq_false_iff_ne.mpr e
      rw [e2]
      exact FRel.look f t
theorem FRel.put {v0 : V} {d0 : D} (r : VR K w v0 d0) (f : Str) : ∀ {vs : List (Str × V)} {ds : List (Str × D)}, FRel K w vs ds → FRel K w (putF f v0 vs) (putFD f d0 ds)
  | _, _, .nil => .cons r .nil
  | (k0, v) :: vs, (_, d) :: ds, .cons a t => by
    unfold putF putFD
    by_cases e : k0 = f
    · rw [if_pos e, if_pos e]
      exact .cons r t
    · rw [if_neg e, if_neg e]
      exact .cons a (FRel.put r f t)
theorem insOf_ok [Tbl] (ok : Ok K w H h) (r : VR K w x d) (e : insOf d h = some (c, fds)) : ∃ a i C dx fs, x = .ref a ∧ d = .ref i ∧ w.ρ[i]? = some a ∧ h[i]? = some (.ins c fds) ∧ H a = some (.ins C dx fs) ∧ PySem.W.nsIn K PySem.mainGlobals c = some (some (.ref C)) ∧ FRel K w fs fds := by
  cases r <;> simp [insOf] at e
  next a i e1 =>
  split at e
  · next c' fs e2 =>
    cases e
    obtain ⟨_, o, e3, e4⟩ := ok.cel i a _ e1 e2
    cases o <;> simp [CRel] at e4
    next C dx fs => exact ⟨a, i, C, dx, fs, rfl, rfl, e1, e2, e3, e4.1, frel_of e4.2.1 e4.2.2⟩
  · cases e
theorem Ok.iwrite [Tbl] {i : Nat} {a C : Addr} {dx : Addr} {fs : List (Str × V)} (ok : Ok K w H h) (hn : ∀ kds, h[i]? ≠ some (.lok kds)) (hi : w.ρ[i]? = some a) (hc : PySem.W.nsIn K PySem.mainGlobals c = some (some (.ref C))) (r : FRel K w fs fds) : Ok K w (upd H a (.ins C dx fs)) (h.set i (.ins c fds)) ∧ Step w H w (upd H a (.ins C dx fs)) := ok.write hn hi ⟨hc, r.fst, r.snd⟩
end
/-- what is known of a class and a name of a field -/
def HasA (K : PySem.W.Frag) (c f : Str) : Prop := ∀ C, PySem.W.nsIn K PySem.mainGlobals c = some (some (.ref C)) → Cls K C ∧ NoAttr K C f
theorem hasA_of {K : PySem.W.Frag} {c f : Str} {C : Addr} (h : PySem.W.nsIn K PySem.mainGlobals c = some (some (.ref C))) (k : Cls K C) (n : NoAttr K C f) : HasA K c f := fun C' h' => by
  have e := h.symm.trans h'
  injection e with e
  injection e with e
  injection e with e
  subst e
  exact ⟨k, n⟩
def mFld (c f : Str) (o : ME) : ME := fun env h => (o env h).bind fun x h1 => ofO (fldD c f x h1) h1
def mSetF (c f : Str) (a o : ME) : MS := fun env h => RsS (a env h) env fun d h1 => RsS (o env h1) env fun od h2 => match od with
  | .ref i => match h2[i]? with
    | some (.ins c' fs) => if c' = c ∧ fs.length < 1000 then .nx env (h2.set i (.ins c (putFD f d fs))) else .stuck
    | _ => .stuck
  | _ => .stuck
/-- o.f += a, ints -/
def mAugF (c f : Str) (g : D → D → Hap → Option D) (o a : ME) : MS := fun env h => RsS (o env h) env fun od h1 => match fldD c f od h1 with
  | some v => RsS (a env h1) env fun d h2 => match od with
    | .ref i => match h2[i]?, g v d h2 with
      | some (.ins c' fs), some z => if c' = c ∧ fs.length < 1000 then .nx env (h2.set i (.ins c (putFD f z fs))) else .stuck
      | _, _ => .stuck
    | _ => .stuck
  | none => .stuck
section
variable {X : Cx} {W : WX} {o e : Expr} {mo me : ME} {c f : Str} {pos pos' apos tpos : Pos}
theorem e_fld [Tbl] (T : HasA X.K c f) (ho : PE X o (tE X.K X.mg W mo)) (hb : attributeBase o f X.env (eval o X.env) = eval o X.env := by rfl) : PE X (.Attribute o f pos) (tE X.K X.mg W (mFld c f mo)) := PE.imp (pe_fld ho hb) fun σ H Q ⟨w, env, h, ok, er, p⟩ =>
  ⟨w, env, h, ok, er, Post.bind p fun x da w1 H1 h1 s1 ok1 v1 p1 => by
    obtain ⟨d, e1, q⟩ := ofO_post p1
    unfold fldD at e1
    split at e1
    · next c' fds e2 =>
      split at e1
      · next hc =>
        subst hc
        obtain ⟨a, i, C, dx, fs, rfl, rfl, h1', h2', h3', h4', r⟩ := insOf_ok ok1 v1 e2
        obtain ⟨k1, k2⟩ := T C h4'
        rcases r.look f with ⟨z1, z2⟩ | ⟨v, d2, z1, z2, z3⟩
        · rw [e1] at z2; cases z2
        · rw [e1] at z2
          cases z2
          exact ⟨a, C, dx, fs, v, rfl, h3', k1, k2, z1, q _ _ _ (Step.refl _ _) ok1 z3⟩
      · cases e1
    · cases e1⟩
theorem s_setF [Tbl] (T : HasA X.K c f) (he : PE X e (tE X.K X.mg W me)) (ho : PE X o (tE X.K X.mg W mo)) (hs : swapsWith e (some (.Attribute o f pos')) pos.line X.env = pure false := by rfl) : PS X (.Assign [.Attribute o f pos'] e pos) (tS X.K X.mg W (mSetF c f me mo)) :=
  PS.imp (ps_fld ho he hs) fun D σ H ⟨w, env, h, ok, er, p⟩ =>
  ⟨w, env, h, ok, er, PostS.bind er p fun y d w1 H1 h1 s1 ok1 v1 p1 => ⟨w1, env, h1, ok1, er.mono s1, PostS.bind (er.mono s1) p1 fun x od w2 H2 h2 s2 ok2 v2 p2 => by
    split at p2
    · next i =>
      split at p2
      · next c' fds ej =>
        split at p2
        · next hl =>
          obtain ⟨rfl, hl⟩ := hl
          obtain ⟨a, i2, C, dx, fs, rfl, e9, h1', h2', h3', h4', r⟩ := insOf_ok (c := c') (fds := fds) ok2 v2 (by unfold insOf; dsimp only; rw [ej])
          cases e9
          obtain ⟨k1, k2⟩ := T C h4'
          have z := ok2.iwrite (dx := dx) (by rw [h2']; exact fun _ z => nomatch z) h1' h4' (r.put (v1.mono s2) f)
          exact ⟨a, C, dx, fs, rfl, h3', k1, k2, by rw [r.len]; exact hl, p2 σ w2 _ z.2 z.1 ((er.mono s1).mono s2)⟩
        · exact p2.elim
      · exact p2.elim
    · exact p2.elim⟩⟩
end
/-! ### methods, making -/
def isI (c nm : Str) (d : D) (h : Hap) : Bool := match insOf d h with
  | some (c', fs) => decide (c' = c) && (fs.lookup nm).isNone
  | none => false
def mMeth (c nm : Str) (m : MF) (o : ME) (a : MA) : ME := fun env h => (o env h).bind fun x h1 => if isI c nm x h1 = true then (a env h1).bind fun xs h2 => m (x :: xs) h2 else .stuck
def mMake (c : Str) (m : MF) (a : MA) : ME := fun env h => (a env h).bind fun xs h1 => match m (.ref h1.length :: xs) (h1 ++ [.ins c []]) with
  | .ok .non h2 => .ok (.ref h1.length) h2
  | _ => .stuck
/-- a method of the text as the top has left it -/
def HasM (K : PySem.W.Frag) (c nm qual : Str) (st : Stmt) (ps : List Str) : Prop := ∃ C f fd, PySem.W.nsIn K PySem.mainGlobals c = some (some (.ref C)) ∧ Cls K C ∧ Meth K C nm f ∧ Fun K nm qual st f fd ∧ Binds K fd ps []
structure OkM [Tbl] (P : Program) (wd : World) (K : PySem.W.Frag) (mg : Str → Option Value) (base : Heap) (c nm : Str) (k n : Nat) (m : MF) : Prop where
  ex : ∃ C f fd ps, PySem.W.nsIn K PySem.mainGlobals c = some (some (.ref C)) ∧ Cls K C ∧ Meth K C nm f ∧ Binds K fd ps [] ∧ FnOk P wd K mg base (L2N.CX P wd) k f fd ps (spM K mg n m)
/-- a class that can be made, its __init__ -/
def HasC (K : PySem.W.Frag) (mg : Str → Option Value) (c qual : Str) (st : Stmt) (ps : List Str) : Prop := ∃ C f fd, PySem.W.nsIn K PySem.mainGlobals c = some (some (.ref C)) ∧ mg c = some (.ref C) ∧ Mk K C f ∧ Fun K "__init__" qual st f fd ∧ Binds K fd ps []
structure OkC [Tbl] (P : Program) (wd : World) (K : PySem.W.Frag) (mg : Str → Option Value) (base : Heap) (c : Str) (k n : Nat) (m : MF) : Prop where
  ex : ∃ C f fd ps, PySem.W.nsIn K PySem.mainGlobals c = some (some (.ref C)) ∧ mg c = some (.ref C) ∧ Mk K C f ∧ Binds K fd ps [] ∧ FnOk P wd K mg base (L2N.CX P wd) k f fd ps (spM K mg n m)
section
variable {P : Program} {wd : World} {K : PySem.W.Frag} {mg : Str → Option Value} {base : Heap}
theorem OkM.mk' [Tbl] {c nm qual : Str} {st : Stmt} {N ps : List Str} {k n z : Nat} {b : MS} {m : MF} (h : HasM K c nm qual st ps) (S : FnScope N ps (defScope st)) (hn : ps.length = n) (hN : N.length = z) (hm : m = run z b)
    (hbody : ∀ (f : Addr) (cdv : Value) (A : Around) (outer : List PySem.Env) (s : Shared) (H : Hp) (E : XK), Room k (A.deeper (envOfC qual (defScope st) s.heap.objs.size f cdv)) →
      PSs (cxOf (L2N.CX P wd) P wd K mg base N qual (defScope st) f cdv A outer s H E) (defBody st) (tS K mg (fun cls d _ H => E cls d H) b)) : OkM P wd K mg base c nm (k + 1) n m := by
  obtain ⟨C, f, fd, hc, hC, me, F, hb⟩ := h
  subst hn hN hm
  exact ⟨C, f, fd, ps, hc, hC, me, hb, ok_fn F S (hbody f)⟩
theorem OkC.mk' [Tbl] {c qual : Str} {st : Stmt} {N ps : List Str} {k n z : Nat} {b : MS} {m : MF} (h : HasC K mg c qual st ps) (S : FnScope N ps (defScope st)) (hn : ps.length = n) (hN : N.length = z) (hm : m = run z b)
    (hbody : ∀ (f : Addr) (cdv : Value) (A : Around) (outer : List PySem.Env) (s : Shared) (H : Hp) (E : XK), Room k (A.deeper (envOfC qual (defScope st) s.heap.objs.size f cdv)) →
      PSs (cxOf (L2N.CX P wd) P wd K mg base N qual (defScope st) f cdv A outer s H E) (defBody st) (tS K mg (fun cls d _ H => E cls d H) b)) : OkC P wd K mg base c (k + 1) n m := by
  obtain ⟨C, f, fd, hc, hm', M, F, hb⟩ := h
  subst hn hN hm
  exact ⟨C, f, fd, ps, hc, hm', M, hb, ok_fn F S (hbody f)⟩
end
def tMethW (C : Addr) (m : Str) (sp : Sp) (E : L2.St → XK) (ta : TE) (t : TA) : TE := fun σ H Q => ta σ H fun x H1 => ∃ a dx fs, x = .ref a ∧ H1 a = some (.ins C dx fs) ∧ fs.lookup m = none ∧ t σ H1 fun vs H2 => sp (x :: vs) H2 Q (E σ)
section
variable {X : Cx} {W : WX} {CX : CXT} {k j n : Nat} {f C : Addr} {fd : FuncData} {ps : List Str} {sp : Sp} {E : L2.St → XK} {x c m : Str} {p pos apos : Pos} {e o : Expr} {es : List Expr} {ta : TE} {t : TA} {mf : MF} {mo : ME} {ma : MA}
theorem pe_methW {pl : Sem Bool} (he : PE X o ta) (c : Cls X.K C) (hm : Meth X.K C m f) (F : FnOk X.prog X.w X.K X.mg X.base CX k f fd ps sp) (hr : Room k X.A) (hb : Binds X.K fd ps []) (hx : ∀ σ, PassesAt CX X σ (E σ)) (ha : PA X (e :: es) t)
    (hst : starEach (e :: es) X.env = (false, eval e X.env) :: starEach es X.env := by rfl) (hpl : (backTo pos (starEach es X.env)).any (·.1) = false := by rfl)
    (ht : eval (.Call (.Attribute o m apos) (e :: es) [] pos) X.env = (do
      let ov ← eval o X.env
      standAt apos.atName
      let (f, first) ← holding [ov] (getMethod ov m pl)
      callWith pos f first (backTo pos (starEach (e :: es) X.env)) (backToKw pos (keywordEach [] X.env))) := by rfl) :
    PE X (.Call (.Attribute o m apos) (e :: es) [] pos) (tMethW C m sp E ta t) := by
  refine ⟨fun pins s σ H Q I h => ?_⟩
  refine PySem.W.methodCall_KW (pl := pl) (thn (he.run pins s σ H _ I h) fun u s1 ⟨x, H1, I1, rx, a, dx, fs, ex, ea, l, q⟩ => ?_) ht
  subst ex
  obtain rfl : u = Value.ref a := rx
  refine getmeth_ok I1 ea c hm l ?_
  refine PySem.W.callWith_K (first := [.ref a]) (h₀ := X.base) I.ok.mod.kin hm.kp (thn (ha.run pos pins s1 σ H1 _ I1 q) fun us s2 ⟨vs, H2, I2, r, q2⟩ => ⟨I2.kIn, ?_⟩) hst hpl
  exact run_fnS (us := .ref a :: us) (vs := .ref a :: vs) F hr hb (hx σ) I2 (.cons rfl r) q2
theorem pe_methW0 {pl : Sem Bool} (he : PE X o ta) (c : Cls X.K C) (hm : Meth X.K C m f) (F : FnOk X.prog X.w X.K X.mg X.base CX k f fd ps sp) (hr : Room k X.A) (hb : Binds X.K fd ps []) (hx : ∀ σ, PassesAt CX X σ (E σ))
    (ht : eval (.Call (.Attribute o m apos) [] [] pos) X.env = (do
      let ov ← eval o X.env
      standAt apos.atName
      let (f, first) ← holding [ov] (getMethod ov m pl)
      callWith pos f first (backTo pos (starEach [] X.env)) (backToKw pos (keywordEach [] X.env))) := by rfl) :
    PE X (.Call (.Attribute o m apos) [] [] pos) (tMethW C m sp E ta tNil) := by
  refine ⟨fun pins s σ H Q I h => ?_⟩
  refine PySem.W.methodCall_KW (pl := pl) (thn (he.run pins s σ H _ I h) fun u s1 ⟨x, H1, I1, rx, a, dx, fs, ex, ea, l, q⟩ => ?_) ht
  subst ex
  obtain rfl : u = Value.ref a := rx
  refine getmeth_ok I1 ea c hm l ?_
  exact PySem.W.callWith_K0 (first := [.ref a]) I1.kIn hm.kp (run_fnS (us := [.ref a]) (vs := [.ref a]) F hr hb (hx σ) I1 (.cons rfl .nil) q)
theorem isI_ok [Tbl] {K : PySem.W.Frag} {w : Wd} {H : Hp} {h : Hap} {x : V} {d : D} {c nm : Str} {C : Addr} (ok : Ok K w H h) (r : VR K w x d) (e : isI c nm d h = true) (hC : PySem.W.nsIn K PySem.mainGlobals c = some (some (.ref C))) : ∃ a dx fs, x = .ref a ∧ H a = some (.ins C dx fs) ∧ fs.lookup nm = none := by
  unfold isI at e
  split at e
  · next c' fds e2 =>
    rw [Bool.and_eq_true, decide_eq_true_iff] at e
    obtain ⟨rfl, e⟩ := e
    obtain ⟨a, i, C', dx, fs, rfl, rfl, h1', h2', h3', h4', r⟩ := insOf_ok ok r e2
    have e5 := hC.symm.trans h4'
    injection e5 with e5
    injection e5 with e5
    injection e5 with e5
    subst e5
    refine ⟨a, dx, fs, rfl, h3', ?_⟩
    rcases r.look nm with ⟨z1, z2⟩ | ⟨v, d2, z1, z2, z3⟩
    · exact z1
    · rw [z2] at e; cases e
  · cases e
theorem e_meth [Tbl] {pl : Sem Bool} (F : OkM X.prog X.w X.K X.mg X.base c m k n mf) (hr : Room j X.A) (hk : k ≤ j) (tk : L2N.Takes X W) (ho : PE X o (tE X.K X.mg W mo)) (ha : PA X (e :: es) (tA X.K X.mg W ma)) (hn : ∀ env h ds h', ma env h = .ok ds h' → ds.length + 1 = n)
    (hst : starEach (e :: es) X.env = (false, eval e X.env) :: starEach es X.env := by rfl) (hpl : (backTo pos (starEach es X.env)).any (·.1) = false := by rfl)
    (ht : eval (.Call (.Attribute o m apos) (e :: es) [] pos) X.env = (do
      let ov ← eval o X.env
      standAt apos.atName
      let (f, first) ← holding [ov] (getMethod ov m pl)
      callWith pos f first (backTo pos (starEach (e :: es) X.env)) (backToKw pos (keywordEach [] X.env))) := by rfl) :
    PE X (.Call (.Attribute o m apos) (e :: es) [] pos) (tE X.K X.mg W (mMeth c m mf mo ma)) := by
  obtain ⟨C, f, fd, ps, hC, cl, me, hb, F⟩ := F.ex
  refine PE.imp (pe_methW (E := WE W) ho cl me F (hr.mono hk) hb (fun σ => L2N.passAt tk σ) ha hst hpl ht) fun σ H Q ⟨w, env, h, ok, er, p⟩ => ?_
  refine ⟨w, env, h, ok, er, Post.bind p fun x da w1 H1 h1 s1 ok1 v1 p1 => ?_⟩
  by_cases ci : isI c m da h1 = true
  · rw [if_pos ci] at p1
    obtain ⟨a, dx, fs, rfl, ha1, hl1⟩ := isI_ok ok1 v1 ci hC
    refine ⟨a, dx, fs, rfl, ha1, hl1, w1, env, h1, ok1, er.mono s1, ?_⟩
    have hn' := hn env h1
    revert p1 hn'
    cases ma env h1 with
    | ok ds h2 => exact fun p1 hn' vs w' H' s ok' vr => ⟨by rw [List.length_cons, vr.length]; exact hn' ds h2 rfl, w', da :: ds, h2, ok', .cons (v1.mono s) vr, Post.step s p1⟩
    | err c fs h2 => exact fun p1 _ => p1
    | stuck => exact fun p1 _ => p1
  · rw [if_neg ci] at p1
    exact p1.elim
theorem e_meth0 [Tbl] {pl : Sem Bool} (F : OkM X.prog X.w X.K X.mg X.base c m k 1 mf) (hr : Room j X.A) (hk : k ≤ j) (tk : L2N.Takes X W) (ho : PE X o (tE X.K X.mg W mo))
    (ht : eval (.Call (.Attribute o m apos) [] [] pos) X.env = (do
      let ov ← eval o X.env
      standAt apos.atName
      let (f, first) ← holding [ov] (getMethod ov m pl)
      callWith pos f first (backTo pos (starEach [] X.env)) (backToKw pos (keywordEach [] X.env))) := by rfl) :
    PE X (.Call (.Attribute o m apos) [] [] pos) (tE X.K X.mg W (mMeth c m mf mo mNil)) := by
  obtain ⟨C, f, fd, ps, hC, cl, me, hb, F⟩ := F.ex
  refine PE.imp (pe_methW0 (E := WE W) ho cl me F (hr.mono hk) hb (fun σ => L2N.passAt tk σ) ht) fun σ H Q ⟨w, env, h, ok, er, p⟩ => ?_
  refine ⟨w, env, h, ok, er, Post.bind p fun x da w1 H1 h1 s1 ok1 v1 p1 => ?_⟩
  by_cases ci : isI c m da h1 = true
  · rw [if_pos ci] at p1
    obtain ⟨a, dx, fs, rfl, ha1, hl1⟩ := isI_ok ok1 v1 ci hC
    exact ⟨a, dx, fs, rfl, ha1, hl1, rfl, w1, [da], h1, ok1, .cons v1 .nil, p1⟩
  · rw [if_neg ci] at p1
    exact p1.elim
/-! making: the __init__ raises nothing -/
theorem passN : Passes (L2N.CX X.prog X.w) X (fun _ _ _ => False) := fun _ _ _ _ _ _ _ h => by
  obtain ⟨_, _, _, _, _, _, _, _, _, _, _, _, z⟩ := h
  exact z.elim
theorem make_post [Tbl] {K : PySem.W.Frag} {gm : Str → Option Value} {w : Wd} {H : Hp} {h : Hap} {c : Str} {C : Addr} {n : Nat} {vs : List V} {ds : List D} {Q : VK} {E : XK} (ok : Ok K w H h) (r : VRs K w vs ds) (hn : ds.length + 1 = n) (hC : PySem.W.nsIn K PySem.mainGlobals c = some (some (.ref C)))
    (p : Post K gm (VR K) w H (match mf (.ref h.length :: ds) (h ++ [.ins c []]) with | .ok .non h2 => .ok (.ref h.length) h2 | _ => .stuck) Q E) :
    ∀ x dx, H x = none → H dx = none → dx ≠ x → spM K gm n mf (.ref x :: (vs ++ [])) (upd (upd H dx (.own x)) x (.ins C dx [])) (fun v H2 => v = .non ∧ Q (.ref x) H2) (fun _ _ _ => False) := by
  intro x dx hx hdx ne
  obtain ⟨f0, r0⟩ := ok.fresh hdx
  have ok1 : Ok K w (upd H dx (.own x)) h := ok.put (fun o e => by rw [hdx] at e; cases e) f0 r0
  have s1 : Step w H w (upd H dx (.own x)) := (Step.refl w H).put hdx
  have hx1 : upd H dx (.own x) x = none := by rw [upd_ne (Ne.symm ne)]; exact hx
  have q := ok1.cell (c := .ins c []) (o := .ins C dx []) hx1 ⟨hC, rfl, .nil⟩
  have st := s1.trans q.2
  rw [List.append_nil]
  refine ⟨by rw [List.length_cons, r.length]; exact hn, _, .ref h.length :: ds, _, q.1, .cons (.ref ?_) (r.mono st), ?_⟩
  · show (w.ρ ++ [x])[h.length]? = some x
    rw [← ok.len, List.getElem?_append_right (Nat.le_refl _), Nat.sub_self]
    rfl
  · have hix : (w.ρ ++ [x])[h.length]? = some x := by
      rw [← ok.len, List.getElem?_append_right (Nat.le_refl _), Nat.sub_self]
      rfl
    revert p
    cases mf (.ref h.length :: ds) (h ++ [.ins c []]) with
    | ok d h2 =>
      intro p
      cases d <;> try exact p.elim
      exact fun v w' H' s2 ok2 vr => ⟨by cases vr; rfl, p (.ref x) w' H' (st.trans s2) ok2 (.ref (s2.ix hix))⟩
    | err c fs h2 => exact fun p => p.elim
    | stuck => exact fun p => p.elim
theorem e_make [Tbl] (F : OkC X.prog X.w X.K X.mg X.base c k n mf) (hr : Room j X.A) (hk : k + 1 ≤ j) (ha : PA X (e :: es) (tA X.K X.mg W ma)) (hn : ∀ env h ds h', ma env h = .ok ds h' → ds.length + 1 = n) (hg : Gl X c)
    (hdb : (c == ("__debug__" : Str)) = false := by decide) (he : starEach (e :: es) X.env = (false, eval e X.env) :: starEach es X.env := by rfl) (hpl : (backTo pos (starEach es X.env)).any (·.1) = false := by rfl) :
    PE X (.Call (.Name c p) (e :: es) [] pos) (tE X.K X.mg W (mMake c mf ma)) := by
  obtain ⟨C, f, fd, ps, hC, hm, M, hb, F⟩ := F.ex
  refine PE.imp (pe_make M F (hr.mono hk) hg hm hb .nil passN ha hdb he hpl) fun σ H Q ⟨w, env, h, ok, er, q⟩ => ?_
  refine ⟨w, env, h, ok, er, ?_⟩
  have hn' := hn env h
  unfold mMake at q
  revert q hn'
  cases ma env h with
  | ok ds h1 => exact fun q hn' vs w' H' s ok' vr => make_post ok' vr (hn' ds h1 rfl) hC (Post.step s q)
  | err c fs h1 => exact fun q _ => q
  | stuck => exact fun q _ => q
theorem e_make0 [Tbl] (F : OkC X.prog X.w X.K X.mg X.base c k 1 mf) (hr : Room j X.A) (hk : k + 1 ≤ j) (hg : Gl X c) (hdb : (c == ("__debug__" : Str)) = false := by decide) : PE X (.Call (.Name c p) [] [] pos) (tE X.K X.mg W (mMake c mf mNil)) := by
  obtain ⟨C, f, fd, ps, hC, hm, M, hb, F⟩ := F.ex
  exact PE.imp (pe_make0 M F (hr.mono hk) hg hm hb .nil passN hdb) fun σ H Q ⟨w, env, h, ok, er, q⟩ => make_post (vs := []) (ds := []) ok .nil rfl hC q
end
end
end Vi

set_option Elab.async false
set_option linter.all false
set_option autoImplicit false
set_option maxRecDepth 100000
set_option maxHeartbeats 2000000
namespace Vi
open PySem PySem.Spec PySem.Calls PyProof.Rows L2
open scoped Classical
noncomputable section
variable {gm : Str → Option Value}
/-! ### tuple(d) -/
section
variable {pg : Program} {wd : World} {B : Around} {err : Value → Shared → Prop} {st : Shared} {ty : String} {x dx : Addr} {m : Nat} {I : Nat → Value → Prop} {V : Heap → Prop}
/-- st2 is st with the dict's keys in the list at l, all else as it was -/
def Got (I : Nat → Value → Prop) (m : Nat) (st : Shared) (l : Addr) (st2 : Shared) : Prop := ∃ (g : Heap) (t : Nat) (ks : Array Value) (c : Nat), st2 = { st with heap := g, toks := t } ∧ (∀ b o, st.heap.get? b = some o → g.get? b = some o) ∧ g.get? l = some ⟨.type "list", none, .seq ks c, #[]⟩ ∧ ItemsOf I ks m
theorem kdl_collect {R : List Value → Shared → Prop} (src : PySem.W.KdlSrc pg wd ty x dx m I V) (calm : B.handled = none) (v0 : V st.heap) (few : m ≤ sizeLine)
    (go : ∀ (g : Heap) (t : Nat) (ks : Array Value), (∀ b o, st.heap.get? b = some o → g.get? b = some o) → ItemsOf I ks m → R ks.toList { st with heap := g, toks := t }) : wpAny (model pg wd) B (collect (.ref x)) R err st := by
  have lt := src.there _ v0
  have up : ∀ b o, st.heap.get? b = some o → (st.heap.push ⟨.type "list", none, .seq #[] 0, #[]⟩).get? b = some o := fun b o e => Heap.get?_push_of_some _ e
  have new : (st.heap.push ⟨.type "list", none, .seq #[] 0, #[]⟩).get? st.heap.objs.size = some ⟨.type "list", none, .seq #[] 0, #[]⟩ := Heap.get?_push_size _ rfl
  have ext := PySem.W.kdl_extend (A := B) (s := { st with heap := st.heap.push ⟨.type "list", none, .seq #[] 0, #[]⟩ }) (R := fun q st2 => q = .ok (.ret (.ref st.heap.objs.size)) ∧ Got I m st st.heap.objs.size st2)
    src calm (src.keep _ _ v0 fun b _ => up b) st.heap.objs.size (Nat.ne_of_gt lt.1) (Nat.ne_of_gt lt.2) (.ref st.heap.objs.size) 0 new
    (fun g t ks c kp a its => ⟨rfl, g, t, ks, c, rfl, fun b o e => kp b o (fun q => absurd (Heap.lt_size e) (by rw [q]; exact Nat.lt_irrefl _)) (up b o e), a, its⟩) few
  unfold collect
  refine wpAny_bind (wpAny_runValue (codeAny_builtin F.entry_proto_collect ?_))
  simp only [Around.under_plainId F.plain_proto_collect]
  refine wpAny_bind (m := newList []) (wpAny_newObj_type (wpAny_pure ⟨plainId_quiet F.plain_list_iadd _, codeAny_builtin F.entry_list_iadd ?_⟩))
  simp only [Around.under_plainId F.plain_list_iadd]
  refine wpAny_mono ext (fun f st2 z => ?_) fun e st2 z => nomatch z.1
  match f, z with
  | .done f, ⟨e, z⟩ =>
    cases e
    obtain ⟨g, t, ks, c, e, kp, at0, its⟩ := z
    subst e
    dsimp only
    exact wpAny_bind (wpAny_load at0 (wpAny_pure (go g t ks kp its)))
  | .again c, ⟨q, z⟩ =>
    refine ⟨q, codeAny_mono z fun r st3 y => ?_⟩
    obtain ⟨rfl, g, t, ks, c, e, kp, at0, its⟩ := y
    subst e
    dsimp only
    exact wpAny_bind (wpAny_load at0 (wpAny_pure (go g t ks kp its)))
theorem call_tuple_kdl {R : Value → Shared → Prop} (src : PySem.W.KdlSrc pg wd ty x dx m I V) (isx : st.TypeIs (.ref x) ty) (dict : ty = "dict") (calm : B.handled = none) (v0 : V st.heap) (few : m ≤ 16777216)
    (go : ∀ (g : Heap) (t : Nat) (ks : Array Value), (∀ b o, st.heap.get? b = some o → g.get? b = some o) → ItemsOf I ks m → R (.ref g.objs.size) { st with heap := g.push { cls := .type "tuple", data := .seq ks }, toks := t }) :
    wpAny (model pg wd) B (call (.type "tuple") [.ref x]) R err st := by
  subst dict
  have c2 : B.in1.in1.handled = none := calm
  have s1 := sub_tuple_self
  have s2 := init_tuple_lookup
  have s3 := madeHere_tuple
  refine callType_codes (Q₁ := fun v st2 => st2.TypeIs v "tuple" ∧ R v st2) F.called_tuple (F.typeCall_tuple_1 _) F.entry_object_init (codeAny_of_tree ?_) fun v st2 z =>
    ⟨z.1, F.args_object_init_2 v _, object_init_meets F.called_tuple.init.lookup F.called_tuple.made (by decide) pg wd B.in1 _ st2 ⟨z.1, rfl, z.2⟩⟩
  refine wpAny_bind (m := checkBuiltinCall "tuple.__new__" ⟨[.type "tuple", .ref x], []⟩) (wpAny_of_eq (F.newCall_tuple_1 _) (wpAny_pure ⟨plainId_quiet F.plain_tuple_new _, ?_⟩))
  refine codeAny_builtin F.entry_tuple_new ?_
  simp only [Around.under_plainId F.plain_tuple_new]
  wp_walk using wpAny_typeOf isx, kdl_collect (B := B.in1.in1) src c2 v0 (by rw [sizeLine_eq]; exact few)
  intro g t ks up its
  have tz : ks.toList.toArray.size ≤ sizeLine := by rw [Array.toArray_toList, its.1, sizeLine_eq]; omega
  refine wpAny_bind (m := Builtin.Tuple.tupleExact ks.toList.toArray) (wpAny_newObj_type (wpAny_pure ?_) tz)
  rw [Array.toArray_toList]
  exact ⟨⟨_, Heap.get?_push_size _ rfl, rfl⟩, go g t ks up its⟩
end
def rTupD : List V → Hp → VK → Prop := fun xs H Q => ∃ p kvs, xs = [.ref p] ∧ H p = some (.dK kvs) ∧ ∀ q, H q = none → Q (.ref q) (upd H q (.tup (kvs.map fun kv => kV kv.1)))
theorem call_tuple_dK {X : Cx} (hc : X.calm = true) : CallR X (.type "tuple") rTupD := by
  intro pins s σ H xs us Q I r h
  obtain ⟨p, kvs, e, hk, q⟩ := h
  subst e
  obtain ⟨u, eu, rx⟩ := vals1 r
  subst eu
  obtain rfl : u = Value.ref p := rx
  obtain ⟨z, lo, vs, rk, hd⟩ := (show ObjOk X.prog X.w H s.heap p (.dK kvs) from I.hok p _ hk)
  obtain ⟨ep, hat⟩ := hd.dictAt
  have hl : kvs.length = vs.length := Paired.length rk
  have z' : kvs.length ≤ 16777216 := by rw [sizeLine_eq] at z; exact z
  refine call_tuple_kdl (PySem.W.kdl_dict (knd := mixKind X.prog X.w) (kvs := vs) (ep := ep) lo) hd.typeIs rfl (I.ok.hd hc) hat (by rw [← hl]; exact z') fun h' tk acc' hkeep hacc => ?_
  have I1 : Inv X pins σ H { s with heap := h', toks := tk } := I.kept hkeep
  refine ⟨.ref h'.objs.size, upd H h'.objs.size (.tup (kvs.map fun kv => kV kv.1)), I1.laid (t' := tk) (fun b o e => Heap.get?_push_of_some _ e) (Nat.le_refl _) (show ObjOk X.prog X.w _ _ _ (.tup (kvs.map fun kv => kV kv.1)) from ⟨?_, acc'.toList, ?_, ?_⟩), rfl, q _ (I1.hok.fresh (Nat.le_refl _))⟩
  · rw [List.length_map]; exact z
  · have el : acc'.toList.length = acc'.size := by simp
    refine vals_of_at (by rw [List.length_map, el, hacc.1, hl]) fun j x w h1 h2 => ?_
    obtain ⟨k, y, hky, hi⟩ := hacc.2 j w (by rw [← Array.getElem?_toList]; exact h2)
    have e1 : (kvs.map (·.1))[j]? = some k := by
      rw [KV.keys rk, List.getElem?_map, hky] <;> rfl
    have e2 : (kvs.map fun kv => kV kv.1)[j]? = some (kV k) := by
      have e3 : (kvs.map fun kv => kV kv.1) = (kvs.map (·.1)).map kV := by rw [List.map_map] <;> rfl
      rw [e3, List.getElem?_map, e1] <;> rfl
    rw [e2] at h1
    cases h1
    exact keyIs_rel hi
  · rw [Array.toArray_toList]; exact IsTup.new _ _
def dDTup : List D → Hap → Option D := fun ds h => match ds with
  | [d] => (getD d h).map fun kvs => .tup (kvs.map fun kv => keyV kv.1)
  | _ => none
theorem s_dtup [Tbl] {K : PySem.W.Frag} : CallS K rTupD dDTup := by
  intro w H h xs ds d Q ok vr e q
  unfold dDTup at e
  split at e
  · obtain ⟨x, rfl, r⟩ := vrs1 vr
    obtain ⟨kvs, e1, e2⟩ := Option.map_eq_some_iff.mp e
    subst e2
    obtain ⟨p, i, vs, rfl, rfl, h1, h2, h3, r2⟩ := getD_ok ok r e1
    exact ⟨p, vs, rfl, h3, fun l hl => q _ _ _ (ok.alloc hl).2 (ok.alloc hl).1 (vr_tup ok hl r2.keys)⟩
  · cases e
end
end Vi

set_option Elab.async false
set_option linter.all false
set_option autoImplicit false
set_option maxRecDepth 100000
set_option maxHeartbeats 2000000
namespace Vi
open PySem PySem.Spec PyProof.Rows L2
open scoped Classical
noncomputable section
variable {gm : Str → Option Value}
/-! ### text.split(sep), a cell at once -/
def gSplitC : D → List D → Hap → Rs D := fun a ds h => match a, ds with
  | .str a, [.str b] => if (b.length == 0) = false ∧ a.length + 2 ≤ sizeLine then .ok (.ref h.length) (h ++ [.lst ((Txt.split a b).map .str)]) else .stuck
  | _, _ => .stuck
theorem s_splitC [Tbl] {K : PySem.W.Frag} : MetS K gm (fun x xs H Q => ∃ a b, x = .str a ∧ xs = [.str b] ∧ (b.length == 0) = false ∧ a.length + 2 ≤ sizeLine ∧ rNewStrs (Txt.split a b) H Q) gSplitC := by
  intro w H h x xs a ds Q E ok r1 r2 p
  unfold gSplitC at p
  split at p
  · next a b =>
    split at p
    · next c =>
      obtain ⟨y, rfl, r3⟩ := vrs1 r2
      cases r1
      cases r3
      refine ⟨_, _, rfl, rfl, c.1, c.2, fun q hq => ?_⟩
      have z := ok.cell (c := .lst ((Txt.split a b).map D.str)) (o := .lst ((Txt.split a b).map V.str)) hq (VRs.of_strs)
      refine p _ _ _ z.2 z.1 (.ref ?_)
      show (w.ρ ++ [q])[h.length]? = some q
      rw [← ok.len, List.getElem?_append_right (Nat.le_refl _), Nat.sub_self]
      rfl
    · exact p.elim
  · exact p.elim
end
end Vi

set_option Elab.async false
set_option linter.all false
set_option autoImplicit false
set_option maxRecDepth 100000
set_option maxHeartbeats 2000000
namespace Vi
open PySem PySem.Spec PyProof.Rows L2
open scoped Classical
noncomputable section
variable {gm : Str → Option Value}
/-! ### f-strings of two parts and more -/
def mFm (b : ME) : ME := fun env h => (b env h).bind fun d h1 => ofO ((fmtD d).map D.str) h1
def jsL : List ME → Str → Env → Hap → Rs D
  | [], acc, _, h => .ok (.str acc) h
  | b :: bs, acc, env, h => (b env h).bind fun d h1 => match d with
    | .str y => if acc.length + y.length ≤ sizeLine then jsL bs (acc ++ y) env h1 else .stuck
    | _ => .stuck
def mJs (bs : List ME) : ME := fun env h => jsL bs Str.empty env h
inductive JM [Tbl] (X : Cx) (W : WX) : List Expr → List ME → Prop where
  | nil : JM X W [] []
  | cons {e : Expr} {m : ME} {es : List Expr} {ms : List ME} (h : PE X e (tE X.K X.mg W m)) (r : JM X W es ms) : JM X W (e :: es) (m :: ms)
section
variable {X : Cx} {W : WX}
theorem JM.pj [Tbl] {es : List Expr} {ms : List ME} (j : JM X W es ms) : PJ X es (ms.map fun m => tE X.K X.mg W m) := by
  induction j with
  | nil => exact .nil
  | cons h r ih => exact .cons h ih
theorem e_fm [Tbl] {e : Expr} {b : ME} {pos : Pos} (hb : PE X e (tE X.K X.mg W b)) : PE X (.FormattedValue e (-1) none pos) (tE X.K X.mg W (mFm b)) := PE.imp (pe_fmt hb) fun σ H Q ⟨w, env, h, ok, er, p⟩ => by
  refine ⟨w, env, h, ok, er, Post.bind p fun x d w1 H1 h1 s1 ok1 v1 p1 => ?_⟩
  obtain ⟨d2, e2, q⟩ := ofO_post p1
  cases ef : fmtD d with
  | none => rw [ef] at e2; cases e2
  | some y =>
    rw [ef] at e2
    cases e2
    unfold fmtD at ef
    split at ef
    · next z =>
      split at ef
      · next hz =>
        cases ef
        cases v1
        exact .inl ⟨y, rfl, hz, q _ _ _ (Step.refl _ _) ok1 (.str _)⟩
      · cases ef
    · next i =>
      split at ef
      · next hz =>
        cases ef
        cases v1
        exact .inr ⟨i, rfl, hz, q _ _ _ (Step.refl _ _) ok1 (.str _)⟩
      · cases ef
    · cases ef
theorem js_run [Tbl] {Q : VK} {σ : L2.St} : ∀ (ms : List ME) (acc : Str) (w : Wd) (H : Hp) (env : Env) (h : Hap), Ok X.K w H h → EnvR X.K w σ env → Post X.K X.mg (VR X.K) w H (jsL ms acc env h) Q (fun cls d H => W cls d σ H) → tJs (ms.map fun m => tE X.K X.mg W m) acc σ H fun out H1 => Q (.str out) H1
  | [], acc, w, H, env, h, ok, er, p => p (.str acc) w H (Step.refl _ _) ok (.str _)
  | m :: ms, acc, w, H, env, h, ok, er, p => by
    refine ⟨w, env, h, ok, er, Post.bind p fun x d w1 H1 h1 s1 ok1 v1 p1 => ?_⟩
    split at p1
    · next y =>
      split at p1
      · next hl =>
        cases v1
        exact ⟨y, rfl, by rw [len_ap]; exact hl, js_run ms (acc ++ y) w1 H1 env h1 ok1 (er.mono s1) p1⟩
      · exact p1.elim
    · exact p1.elim
theorem e_js [Tbl] {v1 v2 : Expr} {rest : List Expr} {ms : List ME} {pos : Pos} (j : JM X W (v1 :: v2 :: rest) ms) : PE X (.JoinedStr (v1 :: v2 :: rest) pos) (tE X.K X.mg W (mJs ms)) :=
  PE.imp (pe_joined j.pj) fun σ H Q ⟨w, env, h, ok, er, p⟩ => js_run ms Str.empty w H env h ok er p
end
/-! ### text.upper() -/
def dUpper : D → List D → Hap → Option D := fun a ds _ => match a, ds with
  | .str a, [] => if a.length ≤ 5592405 then some (.str (Txt.upper a)) else none
  | _, _ => none
theorem s_upper [Tbl] {K : PySem.W.Frag} : PMetS K (fun x xs H Q => ∃ a, x = .str a ∧ xs = [] ∧ a.length ≤ 5592405 ∧ Q (.str (Txt.upper a)) H) dUpper := by
  intro w H h x xs a ds d Q ok r1 r2 e q
  unfold dUpper at e
  split at e
  · split at e
    · next c =>
      cases e
      cases r1
      cases r2
      exact ⟨_, rfl, rfl, c, q _ _ _ (Step.refl _ _) ok (.str _)⟩
    · cases e
  · cases e
/-! ### o.f += a -/
section
variable {X : Cx} {W : WX}
end
end
end Vi

set_option Elab.async false
set_option linter.all false
set_option autoImplicit false
set_option maxRecDepth 100000
set_option maxHeartbeats 2000000
namespace Vi
open PySem PySem.Spec PyProof.Rows L2
open scoped Classical
noncomputable section
variable {gm : Str → Option Value}
/-! ### {k: v for x in xs if c}, a cell -/
def dcL (gd : Hap → Prop) (vs : List Nat) (g : MG) (c : MT) (k e : ME) (env : Env) : List D → Hap → List (Key × D) → Rs (List (Key × D))
  | [], h, acc => if gd h then .ok acc h else .stuck
  | x :: xs, h, acc => if gd h then match g x (wipeE env vs) h with
    | some e1 => (c e1 h).bindN fun t h1 => if t = true then (k e1 h1).bindN fun kd h2 => (e e1 h2).bindN fun y h3 => match keyD kd with
        | some kk => if acc.length < sizeLine then dcL gd vs g c k e env xs h3 (putD acc kk y) else .stuck
        | none => .stuck
      else dcL gd vs g c k e env xs h1 acc
    | none => .stuck
    else .stuck
def mDComp (s : MI) (vs : List Nat) (g : MG) (c : MT) (k e : ME) : ME := fun env h => (s env h).bind fun s h1 => (dcL s.2 vs g c k e env s.1 h1 []).bindN fun ys h2 => .ok (.ref h2.length) (h2 ++ [.dct ys])
theorem Ok.adoptC [Tbl] {K : PySem.W.Frag} {w : Wd} {H : Hp} {h : Hap} (ok : Ok K w H h) {p : Addr} {o : HO} {c : Cel} (hp : H p = some o) (f0 : w.F p = none) (r0 : p ∉ w.ρ) (hc : CRel K w o c) : Ok K ⟨w.F, w.ρ ++ [p]⟩ H (h ++ [c]) := by
  have rm : ∀ (i : Nat) (a : Addr), w.ρ[i]? = some a → (w.ρ ++ [p])[i]? = some a := fun i a e => by
    rw [List.getElem?_append_left (List.getElem?_eq_some_iff.mp e).1]
    exact e
  refine ⟨ok.sub, by simp [ok.len], fun j a c' e1 e2 => ?_, ?_, ok.tab⟩
  · by_cases q : j < w.ρ.length
    · have e1' : (w.ρ ++ [p])[j]? = some a := e1
      rw [List.getElem?_append_left q] at e1'
      rw [List.getElem?_append_left (by rw [← ok.len]; exact q)] at e2
      exact (ok.cel j a c' e1' e2).up (w' := ⟨w.F, w.ρ ++ [p]⟩) (fun _ _ x => x) rm (fun z => z) rfl
    · have e1' : (w.ρ ++ [p])[j]? = some a := e1
      rw [List.getElem?_append_right (by omega)] at e1'
      rw [List.getElem?_append_right (by rw [← ok.len]; omega)] at e2
      have z : j - w.ρ.length = 0 := by
        have := (List.getElem?_eq_some_iff.mp e1').1
        simp at this
        omega
      rw [z] at e1'
      have z2 : j - h.length = 0 := by rw [← ok.len]; exact z
      rw [z2] at e2
      simp at e1' e2
      subst e1' e2
      exact .of f0 hp (CRel.mono' (w := w) (w' := ⟨w.F, w.ρ ++ [p]⟩) (fun _ _ x => x) rm hc)
  · show (w.ρ ++ [p]).Nodup
    rw [List.nodup_append]
    refine ⟨ok.nd, by simp, fun a m b m2 => ?_⟩
    rw [List.mem_singleton] at m2
    rw [m2]
    exact fun e => r0 (by rw [← e]; exact m)
theorem t_dcomp [Tbl] {K : PySem.W.Frag} {W : WX} {wi : TI} {s : MI} {g : TG} {mg : MG} {us vs : List Nat} {tt : TT} {tk te : TE} {c : MT} {k e : ME} (hi : ∀ σ H Q, tI K gm W s σ H Q → wi σ H Q) (hg : TgS K g mg us) (hu : ∀ i ∈ us, i ∈ vs) (ht : ∀ σ H Q, tT K gm W0 c σ H Q → tt σ H Q)
    (hk : ∀ σ H Q, tE K gm W0 k σ H Q → tk σ H Q) (he : ∀ σ H Q, tE K gm W0 e σ H Q → te σ H Q) :
    ∀ σ H Q, tE K gm W (mDComp s vs mg c k e) σ H Q → tDc wi g tt tk te vs σ H Q := fun σ H Q ⟨w, env, h, ok, er, p⟩ => by
  refine hi _ _ _ ⟨w, env, h, ok, er, Post.bind p fun J s w1 H1 h1 s1 ok1 vr p1 => fun Da hD => ?_⟩
  obtain ⟨xs, gd⟩ := s
  obtain ⟨V, v0, wk⟩ := vr
  have er1 := er.mono s1
  obtain ⟨f0, r0⟩ := ok1.fresh hD
  generalize hr : dcL gd vs mg c k e env xs h1 [] = r at p1
  refine ⟨fun i m H => m = xs.length - i ∧ i ≤ xs.length ∧ ∃ w h acc vacc, Ok K w H h ∧ Step w1 H1 w H ∧ V w ∧ H Da = some (.dK vacc) ∧ w.F Da = none ∧ Da ∉ w.ρ ∧ KVR K w vacc acc ∧ dcL gd vs mg c k e env (xs.drop i) h acc = r,
    ⟨xs.length, by simp, Nat.zero_le _, w1, h1, [], [], ok1.put (fun o e => by rw [hD] at e; cases e) f0 r0, (Step.refl w1 H1).put hD, v0, upd_same, f0, r0, .nil, by simpa using hr⟩, ?_⟩
  rintro i m H2 ⟨rfl, hi, w2, h2, acc, vacc, ok2, s2, v2, d2, f2, r2, a2, hr2⟩
  have ns : r ≠ .stuck := fun z => by rw [z] at p1; exact p1
  by_cases hl : i < xs.length
  · rw [List.drop_eq_getElem_cons hl] at hr2
    unfold dcL at hr2
    by_cases g0 : gd h2
    · rw [if_pos g0] at hr2
      refine .inr ⟨wk.goes w2 H2 h2 i ok2 v2 g0 hl, fun H => i + 1 ≤ xs.length ∧ ∃ w h acc vacc, Ok K w H h ∧ Step w1 H1 w H ∧ V w ∧ H Da = some (.dK vacc) ∧ w.F Da = none ∧ Da ∉ w.ρ ∧ KVR K w vacc acc ∧ dcL gd vs mg c k e env (xs.drop (i + 1)) h acc = r,
        fun H' z => ⟨xs.length - (i + 1), by omega, rfl, z⟩, fun y H' z => ?_⟩
      obtain ⟨w2, st2, ok2, el, e1, ry⟩ := wk.yields w2 H2 h2 i y H' ok2 v2 g0 hl z
      obtain ⟨d2, f2, r2⟩ := st2.own d2 f2 r2 fun _ z => nomatch z
      have v2 := wk.up _ _ _ _ st2 v2
      have a2 := a2.mono st2
      have s2 := s2.trans st2
      have e2 : xs[i] = el := by
        rw [List.getElem?_eq_getElem hl] at e1
        exact Option.some.inj e1
      rw [e2] at hr2
      cases q : mg el (wipeE env vs) h2 with
      | none => rw [q] at hr2; exact absurd hr2.symm ns
      | some e3 =>
        rw [q] at hr2
        have hr3 : ((c e3 h2).bindN fun t h1 => if t = true then (k e3 h1).bindN fun kd h2 => (e e3 h2).bindN fun y h3 => match keyD kd with
            | some kk => if acc.length < sizeLine then dcL gd vs mg c k e env (xs.drop (i + 1)) h3 (putD acc kk y) else .stuck
            | none => .stuck
          else dcL gd vs mg c k e env (xs.drop (i + 1)) h1 acc) = r := hr2
        refine hg w2 _ h2 y el (wipe σ vs) (wipeE env vs) e3 _ ok2 ry (wipeE_env (er1.mono s2) vs) q fun σ2 er2 wp => ⟨?_, ht _ _ _ ⟨w2, e3, h2, ok2, er2, Post.bindN (f := fun t h1 => if t = true then (k e3 h1).bindN fun kd h2 => (e e3 h2).bindN fun y h3 => match keyD kd with
            | some kk => if acc.length < sizeLine then dcL gd vs mg c k e env (xs.drop (i + 1)) h3 (putD acc kk y) else .stuck
            | none => .stuck
          else dcL gd vs mg c k e env (xs.drop (i + 1)) h1 acc) (δ := D) (by rw [hr3]; exact ns) fun b t w3 H3 h3 ec s3 ok3 vb => ?_⟩⟩
        · rw [wp vs hu]
          clear wp er2
          have idem : ∀ (us : List Nat) (τ : L2.St), (∀ i ∈ us, i ∈ vs) → wipe (wipe τ us) vs = wipe τ vs := by
            intro us
            induction us with
            | nil => intro τ _; rfl
            | cons u us ih =>
              intro τ hm
              show wipe ((wipe τ us).set u none) vs = _
              rw [wipe_set (hm u List.mem_cons_self), ih τ fun i m => hm i (List.mem_cons_of_mem _ m)]
          exact idem vs σ fun _ m => m
        · cases vb
          have hr4 := hr3
          rw [ec] at hr4
          have keepD : ∀ {w' : Wd} {H' : Hp} {wa : Wd} {Ha : Hp} {va : List (Key × L2.V)}, Step wa Ha w' H' → Ha Da = some (.dK va) → wa.F Da = none → Da ∉ wa.ρ → H' Da = some (.dK va) ∧ w'.F Da = none ∧ Da ∉ w'.ρ := by
            intro w' H' wa Ha va st da fa ra
            refine ⟨st.keep _ _ ra (fun _ z => nomatch z) da, ?_, fun m => ?_⟩
            · cases z : w'.F Da with
              | none => rfl
              | some o =>
                rcases st.nf Da o z with z2 | z2
                · rw [fa] at z2; cases z2
                · rw [da] at z2; cases z2
            · rcases st.new Da m with z2 | z2
              · exact ra z2
              · rw [da] at z2; cases z2
          obtain ⟨d3, f3, r3⟩ := keepD s3 d2 f2 r2
          cases b with
          | false => exact ⟨hl, w3, h3, acc, vacc, ok3, s2.trans s3, wk.up _ _ _ _ s3 v2, d3, f3, r3, a2.mono s3, hr4⟩
          | true =>
            have hr5 : ((k e3 h3).bindN fun kd h2 => (e e3 h2).bindN fun y h3 => match keyD kd with
              | some kk => if acc.length < sizeLine then dcL gd vs mg c k e env (xs.drop (i + 1)) h3 (putD acc kk y) else .stuck
              | none => .stuck) = r := hr4
            rw [if_pos rfl]
            refine hk _ _ _ ⟨w3, e3, h3, ok3, er2.mono s3, Post.bindN (f := fun kd h2 => (e e3 h2).bindN fun y h3 => match keyD kd with
              | some kk => if acc.length < sizeLine then dcL gd vs mg c k e env (xs.drop (i + 1)) h3 (putD acc kk y) else .stuck
              | none => .stuck) (δ := D) (by rw [hr5]; exact ns) fun z kd w4 H4 h4 ee s4 ok4 rz => ?_⟩
            rw [ee] at hr5
            have hr6 : ((e e3 h4).bindN fun y h3 => match keyD kd with
              | some kk => if acc.length < sizeLine then dcL gd vs mg c k e env (xs.drop (i + 1)) h3 (putD acc kk y) else .stuck
              | none => .stuck) = r := hr5
            obtain ⟨d4, f4, r4⟩ := keepD s4 d3 f3 r3
            refine he _ _ _ ⟨w4, e3, h4, ok4, (er2.mono s3).mono s4, Post.bindN (f := fun y h3 => match keyD kd with
              | some kk => if acc.length < sizeLine then dcL gd vs mg c k e env (xs.drop (i + 1)) h3 (putD acc kk y) else .stuck
              | none => .stuck) (δ := D) (by rw [hr6]; exact ns) fun y dy w5 H5 h5 ee2 s5 ok5 ry2 => ?_⟩
            rw [ee2] at hr6
            have hr7 : (match keyD kd with
              | some kk => if acc.length < sizeLine then dcL gd vs mg c k e env (xs.drop (i + 1)) h5 (putD acc kk dy) else .stuck
              | none => .stuck) = r := hr6
            obtain ⟨d5, f5, r5⟩ := keepD s5 d4 f4 r4
            cases ek : keyD kd with
            | none => rw [ek] at hr7; exact absurd hr7.symm ns
            | some kk =>
              rw [ek] at hr7
              have hr8 : (if acc.length < sizeLine then dcL gd vs mg c k e env (xs.drop (i + 1)) h5 (putD acc kk dy) else .stuck) = r := hr7
              by_cases hz : acc.length < sizeLine
              · rw [if_pos hz] at hr8
                have ez := keyD_ok rz ek
                exact ⟨vacc, kk, ez, d5, by rw [a2.len]; exact hz, hl, w5, h5, putD acc kk dy, putK vacc kk y, ok5.put (fun o e => by rw [d5] at e; cases e; exact fun _ z => nomatch z) f5 r5, (((s2.trans s3).trans s4).trans s5).put hD, wk.up _ _ _ _ s5 (wk.up _ _ _ _ s4 (wk.up _ _ _ _ s3 v2)), upd_same, f5, r5, KVR.put ry2 kk (((a2.mono s3).mono s4).mono s5), hr8⟩
              · rw [if_neg hz] at hr8
                exact absurd hr8.symm ns
    · rw [if_neg g0] at hr2
      exact absurd hr2.symm ns
  · have ei : i = xs.length := by omega
    subst ei
    rw [List.drop_length] at hr2
    unfold dcL at hr2
    by_cases g0 : gd h2
    · rw [if_pos g0] at hr2
      refine .inl ⟨wk.stops w2 H2 h2 ok2 v2 g0, ?_⟩
      rw [← hr2] at p1
      have q2 := ok2.adoptC (c := .dct acc) d2 f2 r2 ⟨a2.fst, a2.snd⟩
      refine p1 (.ref Da) ⟨w2.F, w2.ρ ++ [Da]⟩ H2 ⟨s2.f, ?_, s2.keep, s2.dom, fun a m => ?_, s2.nf⟩ q2 (.ref ?_)
      · obtain ⟨t, e⟩ := s2.r
        exact ⟨t ++ [Da], by rw [e, List.append_assoc]⟩
      · rcases List.mem_append.mp m with m | m
        · exact s2.new a m
        · rw [List.mem_singleton] at m
          rw [m]
          exact .inr hD
      · show (w2.ρ ++ [Da])[h2.length]? = some Da
        rw [← ok2.len, List.getElem?_append_right (Nat.le_refl _), Nat.sub_self]
        rfl
    · rw [if_neg g0] at hr2
      exact absurd hr2.symm ns
section
variable {X : Cx} {W : WX} {kx vx tg iter : Expr} {ifs : List Expr} {scope : Scope} {own : List (Str × Nat)} {pos : Pos} {s : MI} {g : TG} {mg : MG} {us : List Nat} {c : MT} {k e : ME}
theorem e_dcomp [Tbl] (hc : X.calm = true) (hN : X.N.Nodup) (ok : BlkOk X.N X.env.scope scope own) (hu : ∀ i ∈ us, i ∈ own.map (·.2)) (hb : TgS X.K g mg us) (hi : PI X tg iter (tI X.K X.mg W s))
    (hg : ∀ (s : Shared) (H : Hp) (C : Addr) (cl : List (Str × Addr)) (fp : List Addr), PG (X.blk s H scope (compEnvC scope cl C X.env) fp) tg g) (ht : ∀ (s : Shared) (H : Hp) (C : Addr) (cl : List (Str × Addr)) (fp : List Addr), PTs (X.blk s H scope (compEnvC scope cl C X.env) fp) ifs (tT X.K X.mg W0 c))
    (hk : ∀ (s : Shared) (H : Hp) (C : Addr) (cl : List (Str × Addr)) (fp : List Addr), PE (X.blk s H scope (compEnvC scope cl C X.env) fp) kx (tE X.K X.mg W0 k))
    (he : ∀ (s : Shared) (H : Hp) (C : Addr) (cl : List (Str × Addr)) (fp : List Addr), PE (X.blk s H scope (compEnvC scope cl C X.env) fp) vx (tE X.K X.mg W0 e)) (hs : ∀ x, foldedSetIterable iter X.env x = pure x := by intro _; rfl) :
    PE X (.DictComp kx vx [⟨tg, iter, ifs, 0⟩] scope pos) (tE X.K X.mg W (mDComp s (own.map (·.2)) mg c k e)) := PE.imp (pe_dc hc hN hi ok hg ht hk he hs) (t_dcomp (fun _ _ _ h => h) hb hu (fun _ _ _ h => h) (fun _ _ _ h => h) fun _ _ _ h => h)
end
end
end Vi

set_option Elab.async false
set_option linter.all false
set_option autoImplicit false
set_option maxRecDepth 100000
set_option maxHeartbeats 2000000
namespace Vi
open PySem PySem.Spec PySem.Calls PyProof.Rows L2 L2.DX
open scoped Classical
noncomputable section
variable {gm : Str → Option Value}
/-! ### sorted(d): a dict's keys -/
theorem each_keys : ∀ {ks : List Key} {us : List Value}, Vals (ks.map kV) us → PySem.W.EachIs (fun (u : Value) (k : Key) => RelV (kV k) u) us ks
  | [], _, h => by cases h; exact .nil
  | k :: ks, _, h => by cases h with | cons r t => exact .cons r (each_keys t)
theorem keys_of_each : ∀ {us : List Value} {ks : List Key}, PySem.W.EachIs (fun (u : Value) (k : Key) => RelV (kV k) u) us ks → Vals (ks.map kV) us
  | _, _, .nil => .nil
  | _, _, .cons a b => .cons a (keys_of_each b)
def rSortKs : List V → Hp → VK → Prop := fun vs H Q => ∃ (a : Addr) (kvs : List (Key × V)), vs = [.ref a] ∧ H a = some (.dK kvs) ∧ PySem.W.AllAlike ((kvs.map Prod.fst).map keyP) ∧ PySem.W.Sortable ((kvs.map Prod.fst).map keyP) ∧
  ∀ p, H p = none → Q (.ref p) (upd H p (.lst (((kvs.map Prod.fst).mergeSort (PySem.W.dataLe false keyP)).map kV)))
section
variable {X : Cx}
theorem cr_sortKs (hc : X.calm = true) (hu : X.A.units + 64 < cLine) : CallR X (.builtin "sorted") rSortKs := by
  intro pins s σ H xs us Q I r h
  obtain ⟨a, kvs, rfl, ha, hal, hab, q⟩ := h
  obtain rfl := Vals.ref1 r
  obtain ⟨hz, hs0, vs, kv, hdo⟩ := I.hok a _ ha
  obtain ⟨ep, hat⟩ := hdo.dictAt
  have lk : kvs.length = vs.length := Paired.length kv
  refine call_function_entry PyProof.Rows.kind_sorted PyProof.Rows.plain_sorted PyProof.Rows.entry_sorted (PyProof.Rows.args_sorted1 _) ?_
  unfold Builtin.«sorted»
  refine wpAny_bind (m := checkCount "sorted" 1 1 _) (wpAny_pure ?_)
  refine wpAny_bind (kdl_collect (B := X.A.in1) (PySem.W.kdl_dict (knd := mixKind X.prog X.w) (kvs := vs) (ep := ep) hs0) (I.ok.hd hc) hat (by rw [← lk]; exact hz) fun h' tk acc hk hacc => ?_)
  have el : acc.toList.length = acc.size := by simp
  have hla : acc.toList.length = kvs.length := by rw [el, hacc.1, lk]
  have hv : Vals ((kvs.map Prod.fst).map kV) acc.toList := by
    refine vals_of_at (by rw [List.length_map, List.length_map, hla]) fun j x w h1 h2 => ?_
    obtain ⟨k, y, hky, hi⟩ := hacc.2 j w (by rw [← Array.getElem?_toList]; exact h2)
    have e1 : (kvs.map (·.1))[j]? = some k := by
      rw [KV.keys kv, List.getElem?_map, hky] <;> rfl
    have e2 : ((kvs.map Prod.fst).map kV)[j]? = some (kV k) := by
      rw [List.getElem?_map, show (kvs.map Prod.fst)[j]? = some k from e1] <;> rfl
    rw [e2] at h1
    cases h1
    exact keyIs_rel hi
  refine wpAny_bind (wpAny_newList ?_ (by rw [hla]; exact hz))
  have I1 : Inv X pins σ H { s with heap := h', toks := tk } := I.kept hk
  generalize hus : acc.toList = us at *
  generalize hks : kvs.map Prod.fst = ks at *
  have ek := each_keys hv
  have lks : ks.length = us.length := by rw [← hks, List.length_map, hla]
  have hob : (h'.push { cls := .type "list", data := .seq us.toArray }).get? h'.objs.size = some (seqObj "list" us.toArray 0) := Heap.get?_push_size _ rfl
  have er : PySem.W.EachIs (fun v (b : Key) => ∃ ad, Reads (PySem.W.sortingHeap (h'.push { cls := .type "list", data := .seq us.toArray }) h'.objs.size us) v (keyP b) ad) us ks := by
    have go : ∀ {us' : List Value} {bs : List Key}, PySem.W.EachIs (fun (u : Value) (k : Key) => RelV (kV k) u) us' bs →
        PySem.W.EachIs (fun v (b : Key) => ∃ ad, Reads (PySem.W.sortingHeap (h'.push { cls := .type "list", data := .seq us.toArray }) h'.objs.size us) v (keyP b) ad) us' bs := by
      intro us' bs z
      induction z with
      | nil => exact .nil
      | @cons u b us' bs e t ih =>
        refine .cons ?_ ih
        obtain ⟨ad, rd⟩ := Dp.reads I1 _ _ u (dp_key (K := X.K) (H := H) b) e
        exact ⟨ad, PyProof.Rows.Reads.keeps (fun b o e => PySem.W.sortingHeap_old (Nat.ne_of_lt (Heap.lt_size e)) (Heap.get?_push_of_some _ e)) rd⟩
    exact go ek
  have mp : ks.map (fun b => keyP b) = ks.map keyP := rfl
  refine wpAny_bind (wpAny_holding (wpAny_mono (Q := fun v s' => EP X pins σ Q (.ref h'.objs.size) s') (wpAny_call_entry PyProof.Rows.slot_list_sort ⟨_, hob, rfl⟩ PyProof.Rows.entry_list_sort
    (PySem.W.list_sort_vals (κ := PySem.W.dataKind (PySem.W.sortingHeap (h'.push { cls := .type "list", data := .seq us.toArray }) h'.objs.size us) (ks.map keyP)) hob
      (PySem.W.SortsAt.data (s := { s with heap := PySem.W.sortingHeap (h'.push { cls := .type "list", data := .seq us.toArray }) h'.objs.size us, toks := tk }) (PySem.W.each_map keyP er) hal hab ?_) (by rw [← lks, ← hks, List.length_map]; exact hz) ⟨.none, rfl, ?_⟩) (PyProof.Rows.args_list_sort _)) (fun _ s' x => ?_) fun _ _ x => x))
  · intro d hd
    obtain ⟨k, _, rfl⟩ := List.mem_map.mp hd
    have : (keyP k).depth = 0 := by cases k <;> rfl
    show X.A.units + 1 + 1 + _ < cLine
    omega
  · have eo := PySem.W.sortVals_data false ek er hal
    have lo : (PySem.W.sortVals (PySem.W.dataKind (PySem.W.sortingHeap (h'.push { cls := .type "list", data := .seq us.toArray }) h'.objs.size us) (ks.map keyP)) false us us).length ≤ sizeLine := by
      rw [PySem.W.sortVals_length false rfl, ← lks, ← hks, List.length_map]; exact hz
    have vo := keys_of_each eo
    obtain ⟨n, hn⟩ := PyProof.Rows.sortedHeap_at (out := (PySem.W.sortVals (PySem.W.dataKind (PySem.W.sortingHeap (h'.push { cls := .type "list", data := .seq us.toArray }) h'.objs.size us) (ks.map keyP)) false us us).toArray) hob
    have fB : H h'.objs.size = none := I1.hok.fresh (Nat.le_refl _)
    refine ⟨.ref h'.objs.size, upd H h'.objs.size (.lst ((ks.mergeSort (PySem.W.dataLe false keyP)).map kV)), I1.laid (t' := tk) (fun b o e => ?_) (Nat.le_refl _) ?_, rfl, q _ fB⟩
    · exact (PyProof.Rows.sortedHeap_old (Nat.ne_of_lt (Heap.lt_size e)) (Heap.lt_size (Heap.get?_push_of_some _ e))).trans (Heap.get?_push_of_some _ e)
    · exact ⟨by rw [List.length_map, List.length_mergeSort, ← hks, List.length_map]; exact hz, _, n, vo, hn⟩
  · exact wpAny_pure ⟨_, rfl, x⟩
end
/-- at the data -/
def keySrt (kvs : List (Key × D)) : Prop := PySem.W.AllAlike ((kvs.map Prod.fst).map keyP) ∧ PySem.W.Sortable ((kvs.map Prod.fst).map keyP)
def dSortKs : List D → Hap → Option D := fun ds h => match ds with
  | [d] => (getD d h).bind fun kvs => if keySrt kvs then some (.lst (((kvs.map Prod.fst).mergeSort (PySem.W.dataLe false keyP)).map keyV)) else none
  | _ => none
theorem s_sortKs [Tbl] {K : PySem.W.Frag} : CallS K rSortKs dSortKs := by
  intro w H h xs ds d Q ok vr e q
  unfold dSortKs at e
  split at e
  · obtain ⟨x, rfl, r⟩ := vrs1 vr
    obtain ⟨kvs, e1, e2⟩ := Option.bind_eq_some_iff.mp e
    split at e2
    · next hS =>
      cases e2
      obtain ⟨a, i, vs, rfl, rfl, hr, hi, ha, r2⟩ := getD_ok ok r e1
      have ef := r2.fst
      refine ⟨a, vs, rfl, ha, by rw [ef]; exact hS.1, by rw [ef]; exact hS.2, fun l hl => q _ _ _ (ok.alloc hl).2 (ok.alloc hl).1 ?_⟩
      rw [ef]
      exact vr_lst ok hl (vrs_map fun k _ => vr_keyV k)
    · cases e2
  · cases e
end
end Vi

set_option Elab.async false
set_option linter.all false
set_option autoImplicit false
set_option maxRecDepth 100000
set_option maxHeartbeats 2000000
namespace Vi
open PySem PySem.Spec PySem.Calls PyProof.Rows L2
open scoped Classical
noncomputable section
/-! ### {**a, **b}: the merge -/
section
variable {prog : Program} {w : World} {κ : Type} [DecidableEq κ] {kk : KeyKind prog w κ} {A : Around} {E : Value → Shared → Prop} {s : Shared}
/-- where a key stands among the entries is where it stands among the pairs -/
theorem ix_pairs {es : Array DictEntry} {ps : List (κ × Value)} (hp : Pairs kk es.toList ps) (x : κ) : (es.findIdx? fun e => kk.is x e.key) = ps.findIdx? fun p => decide (p.1 = x) := by
  have z := hp.findIdx x
  cases es
  simpa using z
theorem put_step {D : Addr} {ps : List (κ × Value)} {x : κ} {u y : Value} {R : Unit → Shared → Prop} (ux : kk.is x u = true) (at0 : s.heap.DictOf kk D ps) (few : ps.length ≤ sizeLine)
    (go : ∀ g, g.DictOf kk D (stored ps x y) → Heap.SameBut D s.heap g → R () { s with heap := g }) : wpAny (model prog w) A (dictPut D (kk.hash x) u y) R E s := by
  obtain ⟨ob, es, ep, g1, g2, g3, g4, g5, g6⟩ := at0
  have ez : es.size ≤ sizeLine := by
    have := g5.length
    rw [Array.length_toList] at this
    omega
  have ixs := ix_pairs g5 x
  unfold dictPut
  refine wpAny_bind (wpAny_dictFind_of ux g1 g3 g4 ?_)
  generalize hj : (es.findIdx? fun e => kk.is x e.key) = j at *
  cases j with
  | none =>
    have new := not_mem_of_findIdx_none ixs.symm
    have st : stored ps x y = ps ++ [(x, y)] := by
      unfold stored
      refine if_neg fun q => ?_
      obtain ⟨p, mp, ep⟩ := List.any_eq_true.mp q
      exact new (List.mem_map.mpr ⟨p, mp, of_decide_eq_true ep⟩)
    have pp : Pairs kk (es.push ⟨kk.hash x, u, y⟩).toList (ps ++ [(x, y)]) := by
      have z := g5.append ux (kk.hash x) y
      cases es
      simpa using z
    have nn : ((ps ++ [(x, y)]).map (·.1)).Nodup := by
      rw [List.map_append]
      refine List.nodup_append.mpr ⟨g6, by simp, fun p mp q mq z => new ?_⟩
      have : q = x := by simpa using mq
      rw [← this, ← z]
      exact mp
    rw [st] at go
    exact wpAny_updateDictKeys (hz := ez) g1 g3 (go _ ⟨_, _, _, Heap.get?_update_self _ g1 (Obj.isFreed_of_dict (Obj.data_mapDictKeys g3 _)), g2.mapDictKeys _, Obj.data_mapDictKeys g3 _, g4.push ux _, pp, nn⟩ (Heap.SameBut.update ..))
  | some i =>
    have st : stored ps x y = ps.map fun p => if p.1 = x then (p.1, y) else p := if_pos (any_of_findIdx_some ixs.symm)
    have pp : Pairs kk (es.modify i fun e => { e with val := y }).toList (ps.map fun p => if p.1 = x then (p.1, y) else p) := by
      have z := g5.modify g6 (i := i) (k := x) (by cases es; simpa using hj) y
      cases es
      simpa using z
    rw [st] at go
    exact wpAny_updateDict g1 g3 (go _ ⟨_, _, _, Heap.get?_update_self _ g1 (Obj.isFreed_of_dict (Obj.data_mapDict g3 _)), g2.mapDict _, Obj.data_mapDict g3 _, g4.modify _ _, pp, by rw [keys_map_store]; exact g6⟩ (Heap.SameBut.update ..))
/-- what the first n of the source's pairs have made of the target -/
def half (ps qs : List (κ × Value)) (n : Nat) : List (κ × Value) := merged ps (qs.take n)
theorem half_len (ps qs : List (κ × Value)) (n : Nat) : (half ps qs n).length ≤ ps.length + qs.length := by
  have z := merged_length_le ps (qs.take n)
  rw [List.length_take] at z
  unfold half
  omega
theorem drop_range {n j x : Nat} {r : List Nat} (e : (List.range n).drop j = x :: r) : x = j ∧ j < n ∧ r = (List.range n).drop (j + 1) := by
  have hj : j < n := by
    have := congrArg List.length e
    simp at this
    omega
  rw [List.drop_eq_getElem_cons (by simpa using hj)] at e
  injection e with a b
  exact ⟨by rw [← a]; simp, hj, b.symm⟩
theorem wpAny_mergeMap {D O : Addr} {ps qs : List (κ × Value)} {R : Unit → Shared → Prop} (ne : D ≠ O) (low : (O == sysModules) = false) (dd : s.heap.DictOf kk D ps) (oo : s.heap.DictOf kk O qs)
    (go : ∀ g, g.DictOf kk D (merged ps qs) → g.DictOf kk O qs → Heap.SameBut D s.heap g → R () { s with heap := g }) (few : ps.length + qs.length ≤ sizeLine) :
    wpAny (model prog w) A (mergeMapping D (.ref O) false) R E s := by
  have tyO := oo.typeIs
  have oo' := oo
  obtain ⟨dob, des, dep, a1, a2, a3, a4, a5, a6⟩ := id dd
  obtain ⟨oob, oes, oep, b1, b2, b3, b4, b5, b6⟩ := oo
  have nq : qs.length = oes.size := by
    have := b5.length
    rw [Array.length_toList] at this
    exact this.symm
  -- the loop, from any heap that is the first one but for D
  have turn : ∀ (j : Nat), j < oes.size → ∀ (g : Heap), g.DictOf kk D (half ps qs j) → g.get? O = some oob →
      ∃ e, oes[j]? = some e ∧ ∀ (R' : Unit → Shared → Prop), (∀ g', g'.DictOf kk D (half ps qs (j + 1)) → g'.get? O = some oob → Heap.SameBut D g g' → R' () { s with heap := g' }) →
        wpAny (model prog w) A (dictPut D e.hash e.key e.val) R' E { s with heap := g } := fun j hj g hg ho => by
    have hq : j < qs.length := by omega
    have ej : oes[j]? = some oes[j] := Array.getElem?_eq_getElem hj
    obtain ⟨c1, c2⟩ := b5.get? (e := oes[j]) (by rw [Array.getElem?_toList]; exact ej) (List.getElem?_eq_getElem hq)
    obtain ⟨x, c3, c4⟩ := b4 oes[j] (Array.getElem_mem hj)
    have ex := kk.inj _ _ _ c3 c1
    refine ⟨oes[j], ej, fun R' k => ?_⟩
    rw [c4, ex, c2]
    refine put_step (ex ▸ c3) hg (Nat.le_trans (half_len ps qs j) few) fun g' m sb => k g' ?_ ((sb.2 O (Ne.symm ne)).trans ho) sb
    have := merged_take_succ ps qs j qs[j] (List.getElem?_eq_getElem hq)
    unfold half at *
    rw [this]
    exact m
  unfold mergeMapping
  refine wpAny_bind (wpAny_isInstance (T := "dict") (U := "dict") (b := true) tyO (by rw [isSubtype_type]; kernel_rfl) ?_)
  simp only [if_true]
  refine wpAny_bind (wpAny_specialOf tyO F.slot_dict_iter.lookup (wpAny_bind (wpAny_pure ?_)))
  rw [show (some (Value.builtin "dict.__iter__") == some (Value.builtin "dict.__iter__")) = true by decide +kernel]
  dsimp only
  rw [if_neg fun q => Bool.false_ne_true (low.symm.trans q)]
  refine wpAny_bind (wpAny_dictEntries a1 a3 ?_)
  have last : ∀ (f : Nat → PUnit → Sem (ForInStep PUnit)), (∀ (j : Nat), j < oes.size → ∀ (g : Heap), g.DictOf kk D (half ps qs j) → g.get? O = some oob → Heap.SameBut D s.heap g →
      wpAny (model prog w) A (f j PUnit.unit) (fun r s' => r = .yield PUnit.unit ∧ ∃ g', s' = { s with heap := g' } ∧ g'.DictOf kk D (half ps qs (j + 1)) ∧ g'.get? O = some oob ∧ Heap.SameBut D s.heap g') E { s with heap := g }) →
      wpAny (model prog w) A (forIn (List.range oes.size) PUnit.unit f >>= fun _ => pure ()) R E s := fun f hf => by
    refine wpAny_bind (wpAny_forIn_list f (fun r _ s' => ∃ g j, s' = { s with heap := g } ∧ r = (List.range oes.size).drop j ∧ g.DictOf kk D (half ps qs j) ∧ g.get? O = some oob ∧ Heap.SameBut D s.heap g) _ ?_ ?_ _ _ ⟨s.heap, 0, rfl, rfl, dd, b1, Heap.SameBut.refl _ _⟩)
    · rintro x r ⟨⟩ s' ⟨g, j, rfl, er, k1, k2, k3⟩
      obtain ⟨rfl, hj, er⟩ := drop_range er.symm
      refine wpAny_mono (hf x hj g k1 k2 k3) (fun y s2 z => ?_) fun _ _ z => z
      obtain ⟨rfl, g', rfl, z1, z2, z3⟩ := z
      exact ⟨g', x + 1, rfl, er, z1, z2, z3⟩
    · rintro ⟨⟩ s' ⟨g, j, rfl, er, k1, k2, k3⟩
      have hj : qs.length ≤ j := by
        have := congrArg List.length er
        simp at this
        omega
      unfold half at k1
      rw [List.take_of_length_le hj] at k1
      exact wpAny_pure (go g k1 ⟨oob, oes, oep, k2, b2, b3, b4, b5, b6⟩ k3)
  split
  · refine wpAny_bind (wpAny_dictEntries b1 b3 (wpAny_bind (wpAny_of_eq (a := PUnit.unit) ?_ ?_)))
    · rw [← Array.forIn_toList]
      refine forIn_yield_id _ fun en men _ => ?_
      obtain ⟨x, hx, _⟩ := b4 en (Array.mem_toList_iff.mp men)
      have bv := kk.byValue x _ hx
      split
      · next q => rw [q] at bv; cases bv
      · rfl
    refine wpAny_bind (wpAny_dictEntries b1 b3 (wpAny_bind (wpAny_dictEpoch b1 b3 (last _ fun j hj g k1 k2 k3 => ?_))))
    obtain ⟨e, ej, z⟩ := turn j hj g k1 k2
    refine wpAny_bind (wpAny_dictEntries k2 b3 ?_)
    rw [ej]
    dsimp only
    rw [if_neg (by decide : ¬ false = true)]
    refine wpAny_bind (wpAny_holding (z _ fun g' m1 m2 m3 => wpAny_bind (wpAny_dictEpoch m2 b3 ?_)))
    rw [if_neg (by simp)]
    exact wpAny_pure ⟨rfl, g', rfl, m1, m2, k3.trans m3⟩
  · refine wpAny_bind (wpAny_dictEntries b1 b3 (wpAny_bind (wpAny_dictEpoch b1 b3 (last _ fun j hj g k1 k2 k3 => ?_))))
    obtain ⟨e, ej, z⟩ := turn j hj g k1 k2
    refine wpAny_bind (wpAny_dictEntries k2 b3 ?_)
    rw [ej]
    dsimp only
    rw [if_neg (by decide : ¬ false = true)]
    refine wpAny_bind (wpAny_holding (z _ fun g' m1 m2 m3 => wpAny_bind (wpAny_dictEpoch m2 b3 ?_)))
    rw [if_neg (by simp)]
    exact wpAny_pure ⟨rfl, g', rfl, m1, m2, k3.trans m3⟩
end
end
end Vi

set_option Elab.async false
set_option linter.all false
set_option autoImplicit false
set_option maxRecDepth 100000
set_option maxHeartbeats 2000000
namespace Vi
open PySem PySem.Spec PySem.Calls PyProof.Rows L2
open scoped Classical
noncomputable section
variable {gm : Str → Option Value}
section
variable {prog : Program} {w : World} {K : Type} [DecidableEq K] {knd : KeyKind prog w K} {A : Around} {E : Value → Shared → Prop} {s : Shared}
theorem wpAny_display2 {v1 v2 : Sem Value} {Q : Value → Shared → Prop} (h : wpAny (model prog w) A v1 (fun x s1 => ∃ (o : Addr) (kvs : List (K × Value)), x = .ref o ∧ s.heap.objs.size ≠ o ∧ (o == sysModules) = false ∧ s1.heap.DictOf knd s.heap.objs.size [] ∧ s1.heap.DictOf knd o kvs ∧ kvs.length ≤ sizeLine ∧
      ∀ h', h'.DictOf knd s.heap.objs.size (merged [] kvs) → Heap.SameBut s.heap.objs.size s1.heap h' →
        wpAny (model prog w) A v2 (fun y s2 => ∃ (o2 : Addr) (ls ms : List (K × Value)), y = .ref o2 ∧ s.heap.objs.size ≠ o2 ∧ (o2 == sysModules) = false ∧ s2.heap.DictOf knd s.heap.objs.size ms ∧ s2.heap.DictOf knd o2 ls ∧ ms.length + ls.length ≤ sizeLine ∧
          ∀ h'', h''.DictOf knd s.heap.objs.size (merged ms ls) → Heap.SameBut s.heap.objs.size s2.heap h'' → Q (.ref s.heap.objs.size) { s2 with heap := h'' }) E { s1 with heap := h' }) E
      { s with heap := s.heap.push { cls := .type "dict", data := .dict #[] } }) :
    wpAny (model prog w) A (dictDisplay [(none, v1), (none, v2)]) Q E s := by
  unfold dictDisplay
  simp only [List.forIn_cons, List.forIn_nil, List.isEmpty_nil, if_true, pure_bind, bind_assoc]
  refine wpAny_bind (wpAny_alloc ?_)
  refine wpAny_bind (wpAny_holding (wpAny_mono h (fun x s1 hx => ?_) fun _ _ e => e))
  obtain ⟨o, kvs, rfl, hdo, hoS, hd, ho, hl, k⟩ := hx
  refine wpAny_bind (wpAny_onRaise (wpAny_tryCatch (wpAny_onRaise (wpAny_holding (wpAny_mergeMap hdo hoS hd ho (fun h' a b c => ?_) (by simpa using hl))))))
  refine wpAny_bind (wpAny_holding (wpAny_mono (k h' a c) (fun y s2 hy => ?_) fun _ _ e => e))
  obtain ⟨o2, ls, ms, rfl, hdo2, hoS2, hd2, ho2, hl2, k2⟩ := hy
  refine wpAny_bind (wpAny_onRaise (wpAny_tryCatch (wpAny_onRaise (wpAny_holding (wpAny_mergeMap hdo2 hoS2 hd2 ho2 (fun h'' a2 b2 c2 => ?_) hl2)))))
  exact wpAny_pure (k2 h'' a2 c2)
end
def mrgV (acc more : List (Key × V)) : List (Key × V) := more.foldl (fun a kv => putK a kv.1 kv.2) acc
def mrgD (acc more : List (Key × D)) : List (Key × D) := more.foldl (fun a kv => putD a kv.1 kv.2) acc
theorem kv_mrg : ∀ {more acc : List (Key × V)} {ws vs : List (Key × Value)}, KV acc vs → KV more ws → KV (mrgV acc more) (merged vs ws)
  | [], _, _, _, h, t => by cases t; exact h
  | p :: more, acc, _, vs, h, t => by
    cases t with
    | @cons _ q _ ws r t =>
      have e : merged vs (q :: ws) = merged (stored vs q.1 q.2) ws := rfl
      rw [e]
      have r1 : p.1 = q.1 := r.1
      have := KV.put h p.1 r.2
      rw [← r1]
      exact kv_mrg (more := more) this t
theorem kvr_mrg {K : PySem.W.Frag} {w : Wd} : ∀ {more : List (Key × V)} {md : List (Key × D)}, KVR K w more md → ∀ {acc : List (Key × V)} {ad : List (Key × D)}, KVR K w acc ad → KVR K w (mrgV acc more) (mrgD ad md)
  | _, _, .nil, _, _, h => h
  | _, _, .cons (k := k) r t, _, _, h => kvr_mrg t (KVR.put r k h)
def tDm (ta tb : TE) : TE := fun σ H Q => ∀ D, H D = none → ta σ (upd H D (.dK [])) fun x H1 => ∃ a ks, x = .ref a ∧ D ≠ a ∧ H1 a = some (.dK ks) ∧ H1 D = some (.dK []) ∧
  tb σ (upd H1 D (.dK (mrgV [] ks))) fun y H2 => ∃ b ls, y = .ref b ∧ D ≠ b ∧ H2 b = some (.dK ls) ∧ H2 D = some (.dK (mrgV [] ks)) ∧ ks.length + ls.length ≤ sizeLine ∧ Q (.ref D) (upd H2 D (.dK (mrgV (mrgV [] ks) ls)))
section
variable {X : Cx}
theorem pe_dm {ea eb : Expr} {ta tb : TE} {pos : Pos} (ha : PE X ea ta) (hb : PE X eb tb) : PE X (.Dict [none, none] [ea, eb] pos) (tDm ta tb) := by
  refine ⟨fun pins s σ H Q I h => ?_⟩
  rw [arm_eval_Dict]
  refine wpAny_bind (wpAny_standAt ?_)
  have hz : (evalEachOpt [none, none] X.env).zip ((evalEach [ea, eb] X.env).map fun v => do let x ← v; standAt pos; pure x) = [(none, do let x ← eval ea X.env; standAt pos; pure x), (none, do let x ← eval eb X.env; standAt pos; pure x)] := rfl
  rw [hz]
  have hDn : H s.heap.objs.size = none := I.hok.fresh (Nat.le_refl _)
  have h := h _ hDn
  generalize hD : s.heap.objs.size = D at h hDn
  have I0 : Inv X pins σ (upd H D (.dK [])) { s with heap := s.heap.push { cls := .type "dict", data := .dict #[] } } := by
    refine I.laid (t' := s.toks) (fun b o e => Heap.get?_push_of_some _ e) (Nat.le_of_eq hD) ?_
    rw [← hD]
    exact dk_empty s.heap I.big
  refine wpAny_display2 (knd := mixKind X.prog X.w) ?_
  rw [hD]
  refine wpAny_bind (wpAny_mono (ha.run pins _ σ _ _ I0 h) (fun v s1 hv => wpAny_bind (wpAny_standAt (wpAny_pure ?_))) fun _ _ e => e)
  obtain ⟨x, H1, I1, rx, a, ks, rfl, hda, h1a, h1D, q⟩ := hv
  obtain rfl : v = Value.ref a := rx
  obtain ⟨z1, lo1, vs1, kv1, d1⟩ := dk_of I1.hok h1a
  obtain ⟨z0, lo0, vs0, kv0, d0⟩ := dk_of I1.hok h1D
  cases kv0
  refine ⟨a, vs1, rfl, hda, lo1, d0, d1, by rw [← kv1.length]; exact z1, fun h' m1 sb => ?_⟩
  have km := kv_mrg (acc := []) (vs := []) .nil kv1
  have lm : (mrgV [] ks).length ≤ ks.length := by
    rw [km.length, kv1.length]
    have := merged_length_le [] vs1
    simpa using this
  have I2 : Inv X pins σ (upd H1 D (.dK (mrgV [] ks))) { s1 with heap := h' } := by
    have he : ∃ q, h'.get? D = some q := let ⟨q, _, _, hq, _⟩ := m1; ⟨q, hq⟩
    exact d_write (t' := s1.toks) I1 (by rw [h1D]; exact True.intro) sb he (dk_new (by omega) lo0 km m1)
  refine wpAny_bind (wpAny_mono (hb.run pins _ σ _ _ I2 q) (fun v s2 hv => wpAny_bind (wpAny_standAt (wpAny_pure ?_))) fun _ _ e => e)
  obtain ⟨y, H2, I3, ry, b, ls, rfl, hdb, h2b, h2D, hl, q⟩ := hv
  obtain rfl : v = Value.ref b := ry
  obtain ⟨z3, lo3, vs3, kv3, d3⟩ := dk_of I3.hok h2b
  obtain ⟨z4, lo4, vs4, kv4, d4⟩ := dk_of I3.hok h2D
  refine ⟨b, vs3, vs4, rfl, hdb, lo3, d4, d3, by rw [← kv4.length, ← kv3.length]; omega, fun h'' m2 sb2 => ?_⟩
  have km2 := kv_mrg kv4 kv3
  have lm2 : (mrgV (mrgV [] ks) ls).length ≤ sizeLine := by
    rw [km2.length]
    have := merged_length_le vs4 vs3
    rw [← kv4.length, ← kv3.length] at this
    omega
  have I4 : Inv X pins σ (upd H2 D (.dK (mrgV (mrgV [] ks) ls))) { s2 with heap := h'' } := by
    have he : ∃ q, h''.get? D = some q := let ⟨q, _, _, hq, _⟩ := m2; ⟨q, hq⟩
    exact d_write (t' := s2.toks) I3 (by rw [h2D]; exact True.intro) sb2 he (dk_new lm2 lo4 km2 m2)
  exact ⟨.ref D, _, I4, rfl, q⟩
end
/-- at the data -/
def mDMrg (a b : ME) : ME := fun env h => (a env h).bindN fun x h1 => match getD x h1 with
  | some ks => (b env h1).bindN fun y h2 => match getD y h2 with
    | some ls => if ks.length + ls.length ≤ sizeLine then .ok (.ref h2.length) (h2 ++ [.dct (mrgD (mrgD [] ks) ls)]) else .stuck
    | none => .stuck
  | none => .stuck
section
variable {X : Cx} {W : WX}
theorem e_dmrg [Tbl] {ea eb : Expr} {ma mb : ME} {pos : Pos} (ha : PE X ea (tE X.K X.mg W ma)) (hb : PE X eb (tE X.K X.mg W mb)) : PE X (.Dict [none, none] [ea, eb] pos) (tE X.K X.mg W (mDMrg ma mb)) := PE.imp (pe_dm ha hb) fun σ H Q ⟨w, env, h, ok, er, p⟩ Da hD => by
  obtain ⟨f0, r0⟩ := ok.fresh hD
  have keepD : ∀ {w' : Wd} {H' : Hp} {wa : Wd} {Ha : Hp} {va : List (Key × L2.V)}, Step wa Ha w' H' → Ha Da = some (.dK va) → wa.F Da = none → Da ∉ wa.ρ → H' Da = some (.dK va) ∧ w'.F Da = none ∧ Da ∉ w'.ρ := by
    intro w' H' wa Ha va st da fa ra
    refine ⟨st.keep _ _ ra (fun _ z => nomatch z) da, ?_, fun m => ?_⟩
    · cases z : w'.F Da with
      | none => rfl
      | some o =>
        rcases st.nf Da o z with z2 | z2
        · rw [fa] at z2; cases z2
        · rw [da] at z2; cases z2
    · rcases st.new Da m with z2 | z2
      · exact ra z2
      · rw [da] at z2; cases z2
  generalize hr : mDMrg ma mb env h = r at p
  have ns : r ≠ .stuck := fun z => by rw [z] at p; exact p
  have sput : Step w H w (upd H Da (.dK [])) := (Step.refl w H).put hD
  unfold mDMrg at hr
  refine ⟨w, env, h, ok.put (fun o e => by rw [hD] at e; cases e) f0 r0, er, Post.bindN (f := fun x h1 => match getD x h1 with
    | some ks => (mb env h1).bindN fun y h2 => match getD y h2 with
      | some ls => if ks.length + ls.length ≤ sizeLine then .ok (D.ref h2.length) (h2 ++ [.dct (mrgD (mrgD [] ks) ls)]) else .stuck
      | none => .stuck
    | none => .stuck) (δ := D) (by rw [hr]; exact ns) fun x xd w1 H1 h1 ee s1 ok1 v1 => ?_⟩
  rw [ee] at hr
  obtain ⟨d1, f1, r1⟩ := keepD s1 upd_same f0 r0
  have S1 := sput.trans s1
  cases e1 : getD xd h1 with
  | none =>
    have hr : (match getD xd h1 with
      | some ks => (mb env h1).bindN fun y h2 => match getD y h2 with
        | some ls => if ks.length + ls.length ≤ sizeLine then .ok (D.ref h2.length) (h2 ++ [.dct (mrgD (mrgD [] ks) ls)]) else .stuck
        | none => .stuck
      | none => .stuck) = r := hr
    rw [e1] at hr
    exact absurd hr.symm ns
  | some ks =>
    have hr : (match getD xd h1 with
      | some ks => (mb env h1).bindN fun y h2 => match getD y h2 with
        | some ls => if ks.length + ls.length ≤ sizeLine then .ok (D.ref h2.length) (h2 ++ [.dct (mrgD (mrgD [] ks) ls)]) else .stuck
        | none => .stuck
      | none => .stuck) = r := hr
    rw [e1] at hr
    have hrB : ((mb env h1).bindN fun y h2 => match getD y h2 with
        | some ls => if ks.length + ls.length ≤ sizeLine then .ok (D.ref h2.length) (h2 ++ [.dct (mrgD (mrgD [] ks) ls)]) else .stuck
        | none => .stuck) = r := hr
    obtain ⟨a, i, vs, rfl, rfl, h1', h2', h3', kr⟩ := getD_ok ok1 v1 e1
    have ne1 : Da ≠ a := fun z => r1 (by rw [z]; exact List.mem_of_getElem? h1')
    refine ⟨a, vs, rfl, ne1, h3', d1, ?_⟩
    have S1p : Step w H w1 (upd H1 Da (.dK (mrgV [] vs))) := S1.put hD
    refine ⟨w1, env, h1, ok1.put (fun o e => by rw [d1] at e; cases e; exact fun _ z => nomatch z) f1 r1, er.mono S1, Post.bindN (f := fun y h2 => match getD y h2 with
        | some ls => if ks.length + ls.length ≤ sizeLine then .ok (D.ref h2.length) (h2 ++ [.dct (mrgD (mrgD [] ks) ls)]) else .stuck
        | none => .stuck) (δ := D) (by rw [hrB]; exact ns) fun y yd w2 H2 h2 ee2 s2 ok2 v2 => ?_⟩
    rw [ee2] at hrB
    obtain ⟨d2, f2, r2⟩ := keepD s2 upd_same f1 r1
    have S2 := S1p.trans s2
    have hr : (match getD yd h2 with
        | some ls => if ks.length + ls.length ≤ sizeLine then .ok (D.ref h2.length) (h2 ++ [.dct (mrgD (mrgD [] ks) ls)]) else .stuck
        | none => .stuck) = r := hrB
    cases e2 : getD yd h2 with
    | none =>
      rw [e2] at hr
      exact absurd hr.symm ns
    | some ls =>
      rw [e2] at hr
      have hr : (if ks.length + ls.length ≤ sizeLine then Rs.ok (D.ref h2.length) (h2 ++ [.dct (mrgD (mrgD [] ks) ls)]) else .stuck) = r := hr
      by_cases hz : ks.length + ls.length ≤ sizeLine
      · rw [if_pos hz] at hr
        obtain ⟨b, j, us, rfl, rfl, g1', g2', g3', kr2⟩ := getD_ok ok2 v2 e2
        have ne2 : Da ≠ b := fun z => r2 (by rw [z]; exact List.mem_of_getElem? g1')
        refine ⟨b, us, rfl, ne2, g3', d2, by rw [kr.len, kr2.len]; exact hz, ?_⟩
        have kf : KVR X.K w2 (mrgV (mrgV [] vs) us) (mrgD (mrgD [] ks) ls) := kvr_mrg kr2 (kvr_mrg (kr.mono s2) .nil)
        have S3 : Step w H w2 (upd H2 Da (.dK (mrgV (mrgV [] vs) us))) := S2.put hD
        have q2 := (ok2.put (fun o e => by rw [d2] at e; cases e; exact fun _ z => nomatch z) (o := .dK (mrgV (mrgV [] vs) us)) f2 r2).adoptC (c := .dct (mrgD (mrgD [] ks) ls)) upd_same f2 r2 ⟨kf.fst, kf.snd⟩
        rw [← hr] at p
        refine p (.ref Da) ⟨w2.F, w2.ρ ++ [Da]⟩ _ ⟨S3.f, ?_, S3.keep, S3.dom, fun a m => ?_, S3.nf⟩ q2 (.ref ?_)
        · obtain ⟨t, e⟩ := S3.r
          exact ⟨t ++ [Da], by rw [e, List.append_assoc]⟩
        · rcases List.mem_append.mp m with m | m
          · exact S3.new a m
          · rw [List.mem_singleton] at m
            rw [m]
            exact .inr hD
        · show (w2.ρ ++ [Da])[h2.length]? = some Da
          rw [← ok2.len, List.getElem?_append_right (Nat.le_refl _), Nat.sub_self]
          rfl
      · rw [if_neg hz] at hr
        exact absurd hr.symm ns
end
end
end Vi

set_option Elab.async false
set_option linter.all false
set_option autoImplicit false
set_option maxRecDepth 100000
set_option maxHeartbeats 2000000
namespace Vi
open PySem PySem.Spec PyProof.Rows L2
open scoped Classical
noncomputable section
/-! ### what a mirror's result satisfies -/
def Sat {α : Type} (r : Rs α) (P : α → Hap → Prop) : Prop := match r with
  | .ok a h => P a h
  | _ => False
structure Ps where
  n : Env → Hap → Prop
  r : D → Hap → Prop
  b : Env → Hap → Prop := fun _ _ => False
  c : Env → Hap → Prop := fun _ _ => False
def SatS (r : RS) (P : Ps) : Prop := match r with
  | .nx e h => P.n e h
  | .rt d h => P.r d h
  | .bk e h => P.b e h
  | .ct e h => P.c e h
  | _ => False
section
variable {α β : Type} {P : α → Hap → Prop} {Q : Ps} {h : Hap} {env : Env}
theorem Sat.mono {r : Rs α} {P' : α → Hap → Prop} (s : Sat r P) (i : ∀ a h, P a h → P' a h) : Sat r P' := by
  cases r with
  | ok a h => exact i a h s
  | err => exact s
  | stuck => exact s
theorem Sat.ex {r : Rs α} (s : Sat r P) : ∃ a h, r = .ok a h ∧ P a h := by
  cases r with
  | ok a h => exact ⟨a, h, rfl, s⟩
  | err => exact s.elim
  | stuck => exact s.elim
theorem SatS.mono {r : RS} {Q' : Ps} (s : SatS r Q) (i : ∀ e h, Q.n e h → Q'.n e h) (j : ∀ d h, Q.r d h → Q'.r d h) (k : ∀ e h, Q.b e h → Q'.b e h) (l : ∀ e h, Q.c e h → Q'.c e h) : SatS r Q' := by
  cases r with
  | nx e h => exact i e h s
  | rt d h => exact j d h s
  | bk d h => exact k d h s
  | ct d h => exact l d h s
  | er => exact s.elim
  | stuck => exact s.elim
theorem Sat.bind {r : Rs β} {f : β → Hap → Rs α} (s : Sat r fun a h => Sat (f a h) P) : Sat (r.bind f) P := by
  cases r with
  | ok a h => exact s
  | err => exact s.elim
  | stuck => exact s.elim
theorem Sat.bindN {r : Rs β} {f : β → Hap → Rs α} (s : Sat r fun a h => Sat (f a h) P) : Sat (r.bindN f) P := by
  cases r with
  | ok a h => exact s
  | err => exact s.elim
  | stuck => exact s.elim
theorem SatS.of {r : Rs β} {f : β → Hap → RS} (s : Sat r fun a h => SatS (f a h) Q) : SatS (RsS r env f) Q := by
  cases r with
  | ok a h => exact s
  | err => exact s.elim
  | stuck => exact s.elim
/-! ### one step each -/
theorem x_ok {a : α} (p : P a h) : Sat (.ok a h) P := p
theorem x_some {o : Option α} {d : α} (e : o = some d) (p : P d h) : Sat (ofO o h) P := by
  rw [e]
  exact p
theorem x_fun {n : Nat} {b : MS} {ds : List D} {P : D → Hap → Prop} (s : SatS (b (env0 n ds) h) ⟨fun _ h => P .non h, P, fun _ _ => False, fun _ _ => False⟩) : Sat (run n b ds h) P := by
  unfold run
  revert s
  cases b (env0 n ds) h with
  | nx e h => exact fun s => s
  | rt e h => exact fun s => s
  | bk e h => exact fun s => s.elim
  | ct e h => exact fun s => s.elim
  | er => exact fun s => s.elim
  | stuck => exact fun s => s.elim
theorem x_var {i : Nat} {d : D} {P : D → Hap → Prop} (e : env[i]? = some (some d)) (p : P d h) : Sat (mVar i env h) P := by
  unfold mVar
  rw [e]
  exact p
theorem x_c {d : D} {P : D → Hap → Prop} (p : P d h) : Sat (mC d env h) P := p
theorem x_bin {g : D → D → Hap → Option D} {a b : ME} {P : D → Hap → Prop} (s : Sat (a env h) fun x h1 => Sat (b env h1) fun y h2 => Sat (ofO (g x y h2) h2) P) : Sat (mBin g a b env h) P := Sat.bind (s.mono fun _ _ s => Sat.bind s)
theorem x_un {g : D → Hap → Option D} {a : ME} {P : D → Hap → Prop} (s : Sat (a env h) fun x h1 => Sat (ofO (g x h1) h1) P) : Sat (mUn g a env h) P := Sat.bind s
theorem x_tst {a : ME} {P : Bool → Hap → Prop} (s : Sat (a env h) fun x h1 => Sat (ofO (oB x) h1) P) : Sat (mTst a env h) P := Sat.bind s
theorem x_oB {b : Bool} {P : Bool → Hap → Prop} (p : P b h) : Sat (ofO (oB (.bl b)) h) P := p
theorem x_notT {a : MT} {P : Bool → Hap → Prop} (s : Sat (a env h) fun x h1 => P (!x) h1) : Sat (mNotT a env h) P := Sat.bind s
theorem x_andT {a b : MT} {P : Bool → Hap → Prop} (s : Sat (a env h) fun x h1 => (x = true → Sat (b env h1) P) ∧ (x = false → P false h1)) : Sat (mAndT a b env h) P := Sat.bind (s.mono fun x h1 s => by
  cases x with
  | true => exact s.1 rfl
  | false => exact s.2 rfl)
theorem x_orT {a b : MT} {P : Bool → Hap → Prop} (s : Sat (a env h) fun x h1 => (x = true → P true h1) ∧ (x = false → Sat (b env h1) P)) : Sat (mOrT a b env h) P := Sat.bind (s.mono fun x h1 s => by
  cases x with
  | true => exact s.1 rfl
  | false => exact s.2 rfl)
theorem x_and {a b : ME} {P : D → Hap → Prop} (s : Sat (a env h) fun x h1 => ∃ t, x = .bl t ∧ (t = true → Sat (b env h1) P) ∧ (t = false → P (.bl false) h1)) : Sat (mAnd a b env h) P := Sat.bind (s.mono fun x h1 ⟨t, e, s⟩ => by
  subst e
  cases t with
  | true => exact s.1 rfl
  | false => exact s.2 rfl)
theorem x_or {a b : ME} {P : D → Hap → Prop} (s : Sat (a env h) fun x h1 => ∃ t, x = .bl t ∧ (t = true → P (.bl true) h1) ∧ (t = false → Sat (b env h1) P)) : Sat (mOr a b env h) P := Sat.bind (s.mono fun x h1 ⟨t, e, s⟩ => by
  subst e
  cases t with
  | true => exact s.1 rfl
  | false => exact s.2 rfl)
theorem x_not {a : ME} {P : D → Hap → Prop} (s : Sat (a env h) fun x h1 => ∃ t, x = .bl t ∧ P (.bl (!t)) h1) : Sat (mNot a env h) P := Sat.bind (s.mono fun x h1 ⟨t, e, s⟩ => by
  subst e
  exact s)
theorem x_if {t : MT} {a b : ME} {P : D → Hap → Prop} (s : Sat (t env h) fun x h1 => (x = true → Sat (a env h1) P) ∧ (x = false → Sat (b env h1) P)) : Sat (mIf t a b env h) P := Sat.bind (s.mono fun x h1 s => by
  cases x with
  | true => exact s.1 rfl
  | false => exact s.2 rfl)
theorem x_nil {P : List D → Hap → Prop} (p : P [] h) : Sat (mNil env h) P := p
theorem x_cons {a : ME} {r : MA} {P : List D → Hap → Prop} (s : Sat (a env h) fun x h1 => Sat (r env h1) fun xs h2 => P (x :: xs) h2) : Sat (mCons a r env h) P := Sat.bind (s.mono fun _ _ s => Sat.bind s)
theorem x_tup {a : MA} {P : D → Hap → Prop} (s : Sat (a env h) fun xs h1 => xs.length ≤ sizeLine ∧ P (.tup xs) h1) : Sat (mTup a env h) P := Sat.bind (s.mono fun _ _ s => by
  rw [if_pos s.1]
  exact s.2)
theorem x_lst {a : MA} {P : D → Hap → Prop} (s : Sat (a env h) fun xs h1 => xs.length ≤ sizeLine ∧ P (.lst xs) h1) : Sat (mLst a env h) P := Sat.bind (s.mono fun _ _ s => by
  rw [if_pos s.1]
  exact s.2)
theorem x_cel {a : MA} {P : D → Hap → Prop} (s : Sat (a env h) fun xs h1 => xs.length ≤ sizeLine ∧ P (.ref h1.length) (h1 ++ [.lst xs])) : Sat (mCel a env h) P := Sat.bind (s.mono fun _ _ s => by
  rw [if_pos s.1]
  exact s.2)
theorem x_cb {g : List D → Hap → Option D} {a : MA} {P : D → Hap → Prop} (s : Sat (a env h) fun xs h1 => Sat (ofO (g xs h1) h1) P) : Sat (mCB g a env h) P := Sat.bind s
theorem x_met {T : String} {g : D → List D → Hap → Rs D} {o : ME} {a : MA} {P : D → Hap → Prop} (s : Sat (o env h) fun x h1 => isT T x h1 = true ∧ Sat (a env h1) fun xs h2 => Sat (g x xs h2) P) : Sat (mMet T g o a env h) P := Sat.bind (s.mono fun _ _ s => by
  rw [if_pos s.1]
  exact Sat.bind s.2)
theorem x_gP {f : D → List D → Hap → Option D} {a : D} {ds : List D} {d : D} {P : D → Hap → Prop} (e : f a ds h = some d) (p : P d h) : Sat (gP f a ds h) P := x_some e p
theorem x_call {m : MF} {a : MA} {P : D → Hap → Prop} (s : Sat (a env h) fun xs h1 => Sat (m xs h1) P) : Sat (mCall m a env h) P := Sat.bind s
theorem x_noP {P : Option Int → Hap → Prop} (p : P none h) : Sat (mNoP env h) P := p
theorem x_part {a : ME} {P : Option Int → Hap → Prop} (s : Sat (a env h) fun x h1 => Sat (ofO (oI x) h1) P) : Sat (mPart a env h) P := Sat.bind s
theorem x_oI {i : Int} {P : Option Int → Hap → Prop} (p : P (some i) h) : Sat (ofO (oI (.int i)) h) P := p
theorem x_sl {a : ME} {lo hi : MO} {P : D → Hap → Prop} (s : Sat (a env h) fun x h1 => Sat (lo env h1) fun l h2 => Sat (hi env h2) fun u h3 => Sat (ofO (dSl x l u h3) h3) P) : Sat (mSl a lo hi env h) P := Sat.bind (s.mono fun _ _ s => Sat.bind (s.mono fun _ _ s => Sat.bind s))
theorem y_var {i : Nat} {P : D → Hap → Prop} (e : ∃ d, env[i]? = some (some d) ∧ P d h) : Sat (mVar i env h) P := let ⟨_, e, p⟩ := e; x_var e p
theorem y_some {o : Option α} (e : ∃ d, o = some d ∧ P d h) : Sat (ofO o h) P := let ⟨_, e, p⟩ := e; x_some e p
theorem y_gP {f : D → List D → Hap → Option D} {a : D} {ds : List D} {P : D → Hap → Prop} (e : ∃ d, f a ds h = some d ∧ P d h) : Sat (gP f a ds h) P := let ⟨_, e, p⟩ := e; x_gP e p
/-! statements -/
theorem s_seq {a b : MS} (s : SatS (a env h) ⟨fun e h1 => SatS (b e h1) Q, Q.r, Q.b, Q.c⟩) : SatS (mSeq a b env h) Q := by
  unfold mSeq
  revert s
  cases a env h with
  | nx e h => exact fun s => s
  | rt e h => exact fun s => s
  | bk e h => exact fun s => s
  | ct e h => exact fun s => s
  | er => exact fun s => s.elim
  | stuck => exact fun s => s.elim
theorem s_cut {a b : MS} (I : Env → Hap → Prop) (h1 : SatS (a env h) ⟨I, Q.r, Q.b, Q.c⟩) (h2 : ∀ e h, I e h → SatS (b e h) Q) : SatS (mSeq a b env h) Q := s_seq (h1.mono h2 (fun _ _ z => z) (fun _ _ z => z) fun _ _ z => z)
theorem s_seqA {a : ME} {g : MG} {b : MS} (s : SatS (mAsg a g env h) ⟨fun e h1 => SatS (b e h1) Q, Q.r, Q.b, Q.c⟩) : SatS (mSeq (mAsg a g) b env h) Q := s_seq s
theorem s_seqU {a o i : ME} {b : MS} (s : SatS (mSub a o i env h) ⟨fun e h1 => SatS (b e h1) Q, Q.r, Q.b, Q.c⟩) : SatS (mSeq (mSub a o i) b env h) Q := s_seq s
theorem s_seqE {a : ME} {b : MS} (s : SatS (mExp a env h) ⟨fun e h1 => SatS (b e h1) Q, Q.r, Q.b, Q.c⟩) : SatS (mSeq (mExp a) b env h) Q := s_seq s
theorem s_seqN {b : MS} (s : SatS (b env h) Q) : SatS (mSeq mNext b env h) Q := s_seq s
theorem s_next (p : Q.n env h) : SatS (mNext env h) Q := p
theorem s_brk' (p : Q.b env h) : SatS (mBrk env h) Q := p
theorem s_cnt' (p : Q.c env h) : SatS (mCnt env h) Q := p
theorem s_exp' {a : ME} (s : Sat (a env h) fun _ h1 => Q.n env h1) : SatS (mExp a env h) Q := SatS.of s
theorem s_ret' {a : ME} (s : Sat (a env h) fun d h1 => Q.r d h1) : SatS (mRet a env h) Q := SatS.of s
theorem s_retN' (p : Q.r .non h) : SatS (mRetN env h) Q := p
theorem s_if' {t : MT} {a b : MS} (s : Sat (t env h) fun x h1 => (x = true → SatS (a env h1) Q) ∧ (x = false → SatS (b env h1) Q)) : SatS (mIfS t a b env h) Q := SatS.of (s.mono fun x h1 s => by
  cases x with
  | true => exact s.1 rfl
  | false => exact s.2 rfl)
theorem s_asg' {a : ME} {i : Nat} (s : Sat (a env h) fun d h1 => Q.n (env.set i (some d)) h1) : SatS (mAsg a (gNm i) env h) Q := SatS.of s
theorem s_asgT {a : ME} {n : Nat} {b : MGs} (s : Sat (a env h) fun d h1 => ∃ e1, gTp n b d env h1 = some e1 ∧ Q.n e1 h1) : SatS (mAsg a (gTp n b) env h) Q := SatS.of (s.mono fun d h1 ⟨e1, q, p⟩ => by
  rw [q]
  exact p)
theorem s_sub' {a o i : ME} (s : Sat (a env h) fun d h1 => Sat (o env h1) fun od h2 => Sat (i env h2) fun id h3 => ∃ h4, sIx od id d h3 = some h4 ∧ Q.n env h4) : SatS (mSub a o i env h) Q := SatS.of (s.mono fun _ _ s => SatS.of (s.mono fun _ _ s => SatS.of (s.mono fun _ _ ⟨h4, q, p⟩ => by
  rw [q]
  exact p)))
theorem s_aug' {a : ME} {i : Nat} {g : D → D → Hap → Option D} {d0 : D} (e : env[i]? = some (some d0)) (s : Sat (a env h) fun d h1 => ∃ d2, g d0 d h1 = some d2 ∧ Q.n (env.set i (some d2)) h1) : SatS (mAug i g a env h) Q := by
  unfold mAug
  rw [e]
  exact SatS.of (s.mono fun _ _ ⟨d2, q, p⟩ => by
    rw [q]
    exact p)
/-- a loop by what holds between two turns: pre, the items taken -/
theorem s_forI {s : MI} {g : MG} {b : MS} (I : List D → List D → Env → Hap → Prop) (hs : Sat (s env h) fun s h1 => I [] s.1 env h1 ∧ (∀ pre post e h, s.1 = pre ++ post → I pre post e h → s.2 h) ∧
      (∀ pre x post e h, s.1 = pre ++ x :: post → I pre (x :: post) e h → ∃ e1, g x e h = some e1 ∧ SatS (b e1 h) ⟨fun e h => I (pre ++ [x]) post e h, Q.r, Q.n, fun e h => I (pre ++ [x]) post e h⟩) ∧
      (∀ e h, I s.1 [] e h → Q.n e h)) : SatS (mFor s g b env h) Q := SatS.of (hs.mono fun s h1 ⟨h0, hg, ht, he⟩ => by
  obtain ⟨xs, gd⟩ := s
  have go : ∀ (post pre : List D) (e : Env) (h : Hap), xs = pre ++ post → I pre post e h → SatS (forL gd g b post e h) Q := by
    intro post
    induction post with
    | nil =>
      intro pre e h q i
      unfold forL
      rw [if_pos (hg pre [] e h q i)]
      rw [List.append_nil] at q
      subst q
      exact he e h i
    | cons x post ih =>
      intro pre e h q i
      unfold forL
      rw [if_pos (hg pre _ e h q i)]
      obtain ⟨e1, q1, t⟩ := ht pre x post e h q i
      rw [q1]
      show SatS ((b e1 h).turn (forL gd g b post)) Q
      revert t
      cases b e1 h with
      | nx e2 h2 => exact fun t => ih (pre ++ [x]) e2 h2 (by simpa using q) t
      | ct e2 h2 => exact fun t => ih (pre ++ [x]) e2 h2 (by simpa using q) t
      | bk e2 h2 => exact fun t => t
      | rt d h2 => exact fun t => t
      | er => exact fun t => t.elim
      | stuck => exact fun t => t.elim
  exact go xs [] env h1 rfl h0)
/-- a comprehension likewise: acc, what is made so far -/
theorem x_compI {s : MI} {vs : List Nat} {g : MG} {c : MT} {e : ME} {P : D → Hap → Prop} (I : List D → List D → Hap → List D → Prop) (hs : Sat (s env h) fun s h1 => I [] s.1 h1 [] ∧ (∀ pre post h acc, s.1 = pre ++ post → I pre post h acc → s.2 h) ∧
      (∀ pre x post h acc, s.1 = pre ++ x :: post → I pre (x :: post) h acc → ∃ e1, g x (wipeE env vs) h = some e1 ∧ Sat (c e1 h) fun t h1 => (t = true → acc.length < sizeLine ∧ Sat (e e1 h1) fun y h2 => I (pre ++ [x]) post h2 (acc ++ [y])) ∧ (t = false → I (pre ++ [x]) post h1 acc)) ∧
      (∀ h acc, I s.1 [] h acc → P (.lst acc) h)) : Sat (mComp s vs g c e env h) P := Sat.bind (hs.mono fun s h1 ⟨h0, hg, ht, he⟩ => by
  obtain ⟨xs, gd⟩ := s
  refine Sat.bindN ?_
  have go : ∀ (post pre : List D) (h : Hap) (acc : List D), xs = pre ++ post → I pre post h acc → Sat (compL gd vs g c e env post h acc) fun ys h2 => Sat (.ok (.lst ys) h2) P := by
    intro post
    induction post with
    | nil =>
      intro pre h acc q i
      unfold compL
      rw [if_pos (hg pre [] h acc q i)]
      rw [List.append_nil] at q
      subst q
      exact he h acc i
    | cons x post ih =>
      intro pre h acc q i
      unfold compL
      rw [if_pos (hg pre _ h acc q i)]
      obtain ⟨e1, q1, t⟩ := ht pre x post h acc q i
      rw [q1]
      refine Sat.bindN (t.mono fun t h1 z => ?_)
      cases t with
      | false => exact ih (pre ++ [x]) h1 acc (by simpa using q) (z.2 rfl)
      | true =>
        obtain ⟨hl, z⟩ := z.1 rfl
        refine Sat.bindN (z.mono fun y h2 z => ?_)
        rw [if_pos hl]
        exact ih (pre ++ [x]) h2 (acc ++ [y]) (by simpa using q) z
  exact go xs [] h1 [] rfl h0)
theorem x_yes {P : Bool → Hap → Prop} (p : P true h) : Sat (mYes env h) P := p
theorem x_mI {m : ME} {P : List D × (Hap → Prop) → Hap → Prop} (s : Sat (m env h) fun d h1 => ∃ xs, seqOf d h1 = some xs ∧ P (xs, fun h => seqOf d h = some xs) h1) : Sat (mI m env h) P := Sat.bind (s.mono fun d h1 ⟨xs, q, p⟩ => by
  rw [q]
  exact p)
theorem x_rng {f : List D → Option (List D × (Hap → Prop))} {a : MA} {P : List D × (Hap → Prop) → Hap → Prop} (s : Sat (a env h) fun xs h1 => Sat (ofO (f xs) h1) P) : Sat (mRng f a env h) P := Sat.bind s
theorem x_rng1 {j : Int} {P : List D × (Hap → Prop) → Hap → Prop} (hl : -(2 ^ 62) ≤ j ∧ j < 2 ^ 62) (p : P (rngL 0 j.toNat, fun _ => True) h) : Sat (ofO (rng1 [.int j]) h) P := x_some (if_pos hl) p
/-! values -/
theorem v_mod {i j : Int} {P : D → Hap → Prop} (hj : j ≠ 0) (p : P (.int (i.fmod j)) h) : Sat (ofO (dMod (.int i) (.int j) h) h) P := x_some (if_pos hj) p
theorem v_div {i j : Int} {P : D → Hap → Prop} (hj : CDivN i j) (p : P (.int (i.fdiv j)) h) : Sat (ofO (dDiv (.int i) (.int j) h) h) P := x_some (if_pos hj) p
theorem v_mul {i j : Int} {P : D → Hap → Prop} (hj : CMul i j) (p : P (.int (i * j)) h) : Sat (ofO (dMul (.int i) (.int j) h) h) P := x_some (if_pos hj) p
theorem v_pow {i j : Int} {P : D → Hap → Prop} (hj : CPow i j) (p : P (.int (i ^ j.toNat)) h) : Sat (ofO (dPow (.int i) (.int j) h) h) P := x_some (if_pos hj) p
theorem v_adds {x y : Str} {P : D → Hap → Prop} (hl : x.length + y.length ≤ sizeLine) (p : P (.str (x ++ y)) h) : Sat (ofO (dAdd (.str x) (.str y) h) h) P := x_some (if_pos hl) p
theorem v_muls {x : Str} {n : Int} {P : D → Hap → Prop} (hl : 0 ≤ n ∧ n < 2 ^ 62 ∧ x.length * n.toNat ≤ sizeLine) (p : P (.str ⟨(List.replicate n.toNat x.cps.toList).flatten.toArray⟩) h) : Sat (ofO (dMul (.str x) (.int n) h) h) P := x_some (if_pos hl) p
theorem v_lens {x : Str} {P : D → Hap → Prop} (hl : x.length ≤ sizeLine) (p : P (.int x.length) h) : Sat (ofO (dLen [.str x] h) h) P := x_some (if_pos hl) p
theorem v_ixS {z : Str} {i : Int} {c : Nat} {P : D → Hap → Prop} (hl : z.length ≤ sizeLine) (e : atI z.cps.toList i = some c) (p : P (.str (ch c)) h) : Sat (ofO (dIx (.str z) (.int i) h) h) P := x_some (Eq.trans (if_pos hl) (by rw [e]; rfl)) p
theorem v_slS {z : Str} {l u : Option Int} {P : D → Hap → Prop} (hl : z.length ≤ sizeLine) (p : P (.str (cutS z l u)) h) : Sat (ofO (dSl (.str z) l u h) h) P := x_some (if_pos hl) p
theorem v_split {a b : Str} {P : D → Hap → Prop} (hl : (b.length == 0) = false ∧ a.length + 2 ≤ sizeLine) (p : P (.lst ((Txt.split a b).map .str)) h) : Sat (gP dSplit (.str a) [.str b] h) P := x_some (if_pos hl) p
end
theorem strsOf_map : ∀ xs : List Str, strsOf (xs.map D.str) = some xs
  | [] => rfl
  | x :: xs => by simp [strsOf, strsOf_map xs]
theorem v_join {a : Str} {d : D} {ys : List Str} {h : Hap} {P : D → Hap → Prop} (e : getQ d h = some (ys.map .str)) (hl : (ys.map (·.length)).sum + ys.length * a.length ≤ 16777216) (p : P (.str (Txt.join a ys)) h) : Sat (gP dJoin (.str a) [d] h) P := x_some (by
  unfold dJoin
  simp only []
  rw [e]
  simp only [Option.bind_some, strsOf_map]
  rw [if_pos hl]) p
theorem blsOf_map : ∀ xs : List Bool, blsOf (xs.map D.bl) = some xs
  | [] => rfl
  | x :: xs => by simp [blsOf, blsOf_map xs]
theorem v_all {d : D} {bs : List Bool} {h : Hap} {P : D → Hap → Prop} (e : getL d h = some (bs.map .bl)) (p : P (.bl (bs.all id)) h) : Sat (ofO (dAll [d] h) h) P := x_some (by unfold dAll; simp only [e, Option.bind_some, blsOf_map, Option.map_some]) p
theorem v_any {d : D} {bs : List Bool} {h : Hap} {P : D → Hap → Prop} (e : getL d h = some (bs.map .bl)) (p : P (.bl (bs.any id)) h) : Sat (ofO (dAny [d] h) h) P := x_some (by unfold dAny; simp only [e, Option.bind_some, blsOf_map, Option.map_some]) p
theorem v_lenQ {d : D} {xs : List D} {h : Hap} {P : D → Hap → Prop} (e : getQ d h = some xs) (hd : ∀ z, d ≠ .str z) (p : P (.int xs.length) h) : Sat (ofO (dLen [d] h) h) P := x_some (by
  unfold dLen
  split
  · next z q => injection q with q1; exact absurd q1 (hd z)
  · next d' _ q => injection q with q1; subst q1; rw [e]; rfl
  · next q1 q2 => exact absurd rfl (q2 d)) p
theorem atI_ok {α : Type} {xs : List α} {i : Int} (h0 : 0 ≤ i) (h1 : i < xs.length) : ∃ x, atI xs i = some x ∧ x ∈ xs ∧ xs[i.toNat]? = some x := by
  have hl : i.toNat < xs.length := by omega
  refine ⟨xs[i.toNat], ?_, List.getElem_mem hl, List.getElem?_eq_getElem hl⟩
  unfold atI ixN
  rw [if_pos h0, if_pos h1]
  simp [hl]
theorem sl_le {n : Nat} (h : n ≤ 16777216) : n ≤ sizeLine := by rw [sizeLine_eq]; exact h
end
end Vi

set_option Elab.async false
set_option linter.all false
set_option autoImplicit false
set_option maxRecDepth 100000
set_option maxHeartbeats 2000000
namespace Vi
open PySem PySem.Spec PyProof.Rows L2
open scoped Classical
noncomputable section
/-! ### sorted(xs, key=lambda x: x[0]), the keys texts -/
/-- the lambda's text: one parameter, no other name of its own -/
structure LamOk (x : Str) (params : Arguments) (body : Expr) (scope : Scope) : Prop where
  txt : ∃ j p1 p2 p3, body = .Subscript (.Name x p1) (.Constant (.int 0) j p2) p3
  kind : scope.kind = .function
  co : scope.isCoroutine = false
  gen : scope.isGenerator = false
  cell : ∀ y ∈ scope.names, y.2 ≠ .cell
  free : ∀ y ∈ scope.names, y.2 ≠ .free
  loc : scope.names.lookup x = some .local
  dbg : (x == ("__debug__" : Str)) = false
  bind : ∀ (q : Str) (cl : List (Str × Addr)) (pm cv ctv v : Value), bindArgs (PySem.W.kla_fn "<lambda>" q params body scope cl pm cv ctv) ⟨[v], []⟩ = pure [(x, v)]
section
variable {prog : Program} {wd : World} {A : Around} {s : Shared} {f c' t : Addr} {q x : Str} {params : Arguments} {body : Expr} {scope : Scope} {pm ctv : Value} {cl : List (Str × Addr)}
/-- the lambda at a row -/
theorem lam_at (L : LamOk x params body scope) (hf : s.heap.get? f = some (PySem.W.kla_obj "<lambda>" q params body scope cl pm c' ctv)) (hcd : s.heap.CodeRec (.ref c') q) (hd : A.depth < recursionLimit) (lim : s.heap.NoLimit) {its : List Value} {z : Str} {tk : Tok}
    (ht : IsTup s.heap t its.toArray) (h0 : its[0]? = some (.str z tk)) : wpAny (model prog wd) A (PySem.call (.ref f) [.ref t]) (PySem.W.KeyPure (.str z) s) (fun _ _ => False) s := by
  have rc : codeAny (model prog wd) A (.call (.ref f) ⟨[.ref t], []⟩) (fun r s' => ∃ v, r = .ok (.ret v) ∧ PySem.W.KeyPure (.str z) s v s') s := by
    refine PySem.W.kla_callFunE hd hf rfl L.co L.gen rfl hcd ?_
    rw [L.bind]
    refine wpAny_pure (wpAny_newFunctionEnv L.cell (fun y hy => ?_) (fun h₁ hns hsb => ⟨lim.fresh _ hsb, ?_⟩) L.kind)
    · rw [List.mem_singleton.mp hy]
      exact L.loc
    have kp : ∀ b o, s.heap.get? b = some o → h₁.get? b = some o := fun b o e => hsb.extBut b o (Nat.ne_of_lt (Heap.lt_size e)) (Heap.get?_push_of_some _ e)
    have ht1 : IsTup h₁ t its.toArray := by
      obtain ⟨o, e1, e2⟩ := ht
      exact ⟨o, kp _ _ e1, e2⟩
    refine PySem.W.kla_codeExpr ?_
    obtain ⟨j, p1, p2, p3, eb⟩ := L.txt
    rw [eb]
    have hm : (fun y => List.lookup y [(x, Value.ref t)].reverse) x = some (.ref t) := by simp
    refine Subscript_Constant (wpAny_Name (wpAny_loadName_local L.kind L.loc hns hm ?_) L.dbg)
    refine wpAny_Constant_int ?_
    have hl : 0 < its.length := (List.getElem?_eq_some_iff.mp h0).1
    have he : atI its 0 = some (.str z tk) := by
      unfold atI ixN
      rw [if_pos (by omega), if_pos (by omega)]
      exact h0
    obtain ⟨i, h1, h2, h3, h4, h5⟩ := atI_get he
    refine ⟨"tuple", _, slot_tuple_getitem.lookup, ht1.typeIs, getItem_tuple (j := i) (x := .str z tk) ht1 (by decide) (by decide) (by rw [List.size_toArray]; exact h1) (by simpa using h2) ?_⟩
    exact ⟨_, rfl, _, _, rfl, kp, .str _ _⟩
  refine wpAny_call (codeAny_mono rc fun r s' hq => ?_)
  obtain ⟨v, rfl, k⟩ := hq
  exact k
end
section
variable {X : Cx} {pins : List (Addr × Obj)} {σ : L2.St} {H : Hp} {s : Shared}
/-- the codes that a table tells -/
def Codes (H : Hp) (q : Str) (ps : Array Value) : Prop := ∀ (pos : Pos) (cv : Value), PySem.codeAmong pos ps.toList = some cv → ∃ c, cv = .ref c ∧ H c = some (LamX.CodeO c q)
/-- what a lambda's making does to what is tracked -/
def Made (H : Hp) (P : Addr) (q : Str) (ps : Array Value) (H1 : Hp) : Prop := H1 = H ∨ ∃ (more : Array Value) (c' : Addr), H c' = none ∧ H1 = upd (upd H P (.tbl (ps ++ more))) c' (LamX.CodeO c' q) ∧ PySem.TriplesOk (ps ++ more).toList ∧
  ∀ (pos : Pos) (cv : Value), PySem.codeAmong pos (ps ++ more).toList = some cv → PySem.codeAmong pos ps.toList = some cv ∨ cv = .ref c'
theorem lam_new {c P : Addr} {ps : Array Value} {params : Arguments} {body : Expr} {scope : Scope} {pos : Pos} {Q : Value → Shared → Prop} {E : Value → Shared → Prop} (I : Inv X pins σ H s) (TB : LamX.TabB X.base X.mg c P) (hcode : X.env.code = .ref c)
    (hP : H P = some (.tbl ps)) (ht : PySem.TriplesOk ps.toList) (ha : Codes H (X.env.qual ++ "<lambda>") ps) (hdef : defaultsOf params X.env = ([], [])) (hfree : ∀ y ∈ scope.names, y.2 ≠ .free)
    (h : ∀ (f c' : Addr) (pm ctv : Value) (cl : List (Str × Addr)) (H1 : Hp) (h1 : Heap) (k1 : Tok), Inv X pins σ H1 { s with heap := h1, toks := k1 } → (∀ b o, b ≠ P → s.heap.get? b = some o → h1.get? b = some o) →
      h1.get? f = some (PySem.W.kla_obj "<lambda>" (X.env.qual ++ "<lambda>") params body scope cl pm c' ctv) → h1.CodeRec (.ref c') (X.env.qual ++ "<lambda>") → Made H P (X.env.qual ++ "<lambda>") ps H1 → Q (.ref f) { s with heap := h1, toks := k1 }) :
    wpAny (model X.prog X.w) X.A (eval (.Lambda params body scope pos) X.env) Q E s := by
  have bP : s.heap.BuiltinsAt X.mg P := TB.bm.keeps I.bk
  have gP : s.heap.get? P = some { cls := .none, data := .fields ps } := I.hok P _ hP
  have hc0 : closureFor scope X.env = pure (cloFrom X.env.cells scope.names []) := closure_ok fun y hy e => absurd e (hfree y hy)
  have hcd : PySem.W.CodeHd s.heap c P := TB.code.keeps I.bk
  refine PySem.W.kla_eval hdef ?_
  cases hk : PySem.codeAmong pos ps.toList with
  | some cv =>
    obtain ⟨c1, rfl, hco⟩ := ha pos cv hk
    refine PySem.W.kla_makeFunctionHit (mg := X.mg) hc0 I.ok.glob (I.mod.glob.keeps I.bk) hcode hcd gP ht hk bP fun ctv h' tk up hsz => ?_
    have up2 : ∀ b o, s.heap.get? b = some o → (h'.push (PySem.W.kla_obj "<lambda>" (X.env.qual ++ "<lambda>") params body scope (cloFrom X.env.cells scope.names []) ((X.mg "__name__").getD .none) c1 ctv)).get? b = some o := fun b o e => Heap.get?_push_of_some _ (up b o e)
    obtain ⟨⟨oc, vs, t, e1, e2, e3⟩, _, _⟩ := I.hok c1 _ hco
    exact h _ c1 _ ctv _ H _ tk (I.kept up2) (fun b o _ e => up2 b o e) (Heap.get?_push_size _ rfl) ⟨c1, oc, vs, t, rfl, up2 _ _ e1, e2, e3⟩ (.inl rfl)
  | none =>
    refine PySem.W.kla_makeFunction (mg := X.mg) hc0 I.ok.glob (I.mod.glob.keeps I.bk) hcode hcd gP ht hk TB.gP bP fun c1 ctv h' tk up hge hlt hrec htb => ?_
    obtain ⟨c2, oc, vs, t, e0, e1, e2, e3⟩ := hrec
    cases e0
    have I1 := LamX.inv_table (q := X.env.qual ++ "<lambda>") (c := c1) (t' := tk) (more := #[rawInt pos.line, rawInt pos.col, .ref c1]) (h' := h'.push (PySem.W.kla_obj "<lambda>" (X.env.qual ++ "<lambda>") params body scope (cloFrom X.env.cells scope.names []) ((X.mg "__name__").getD .none) c1 ctv)) I hP
      (fun b o nb e => Heap.get?_push_of_some _ (up b o nb e)) (Heap.get?_push_of_some _ htb) hge ⟨oc, vs, t, Heap.get?_push_of_some _ e1, e2, e3⟩
    refine h _ c1 _ ctv _ _ _ tk I1 (fun b o nb e => Heap.get?_push_of_some _ (up b o nb e)) (Heap.get?_push_size _ rfl) ⟨c1, oc, vs, t, rfl, Heap.get?_push_of_some _ e1, e2, e3⟩ (.inr ⟨_, c1, I.hok.fresh hge, rfl, ?_, fun p' cv hcv => ?_⟩)
    · rw [Array.toList_append]
      exact PySem.TriplesOk_snoc _ _ _ _ ht
    · rw [Array.toList_append] at hcv
      exact LamX.among_app _ ht hcv

/-- the items with their keys: rows that begin with a text -/
def KeyRow (K : PySem.W.Frag) (H : Hp) (b : V × Str) : Prop := ∃ (t : Addr) (ys : List V), b.1 = V.ref t ∧ SqT K H t (.str b.2 :: ys)
def byK (b : V × Str) : PyData := .str b.2
/-- what sorted(e, key=lambda x: x[0]) does -/
def tSK0 (K : PySem.W.Frag) (P : Addr) (q : Str) (ta : TA) : TE := fun σ H Q => ta σ H fun vs H1 => ∃ (a : Addr) (xs : List V) (bs : List (V × Str)) (ps : Array Value), vs = [.ref a] ∧ SqL K H1 a xs ∧ bs.map Prod.fst = xs ∧ (∀ b ∈ bs, KeyRow K H1 b) ∧ bs.length ≤ sizeLine ∧
  H1 P = some (.tbl ps) ∧ PySem.TriplesOk ps.toList ∧ Codes H1 q ps ∧
  ∀ H2, Made H1 P q ps H2 → ∀ p, H2 p = none → Q (.ref p) (upd H2 p (.lst ((bs.mergeSort (PySem.W.dataLe false byK)).map Prod.fst)))
theorem keep_list {h h1 : Heap} {P a : Addr} {ps : Array Value} {its : Array Value} (hP : h.get? P = some { cls := .none, data := .fields ps }) (k : ∀ b o, b ≠ P → h.get? b = some o → h1.get? b = some o) (hl : h.IsList a its) : h1.IsList a its := by
  obtain ⟨o, e1, e2, e3⟩ := hl
  refine ⟨o, k a o (fun z => ?_) e1, e2, e3⟩
  rw [z, hP] at e1
  cases e1
  cases e2
theorem keep_tup {h h1 : Heap} {P a : Addr} {ps : Array Value} {its : Array Value} (hP : h.get? P = some { cls := .none, data := .fields ps }) (k : ∀ b o, b ≠ P → h.get? b = some o → h1.get? b = some o) (hl : IsTup h a its) : IsTup h1 a its := by
  obtain ⟨o, e1, e2, e3⟩ := hl
  refine ⟨o, k a o (fun z => ?_) e1, e2, e3⟩
  rw [z, hP] at e1
  cases e1
  cases e2
def KR (h : Heap) (u : Value) (b : V × Str) : Prop := RelV b.1 u ∧ ∃ (t : Addr) (its : List Value) (tk : Tok), u = .ref t ∧ IsTup h t its.toArray ∧ its[0]? = some (.str b.2 tk)
theorem each_rows (I : Inv X pins σ H s) : ∀ {bs : List (V × Str)} {us : List Value}, Vals (bs.map Prod.fst) us → (∀ b ∈ bs, KeyRow X.K H b) → PySem.W.EachIs (KR s.heap) us bs
  | [], _, .nil, _ => .nil
  | b :: bs, _, .cons r t, h => by
    refine .cons ⟨r, ?_⟩ (each_rows I t fun x m => h x (List.mem_cons_of_mem _ m))
    obtain ⟨a, ys, e1, e2⟩ := h b List.mem_cons_self
    rw [e1] at r
    obtain ⟨its, rv, pl, _⟩ := I.tuple e2
    cases rv with
    | cons r1 r2 =>
      obtain ⟨tk, rfl⟩ := r1
      exact ⟨a, _, tk, r, pl, rfl⟩
theorem vals_rows {h : Heap} : ∀ {bs : List (V × Str)} {us : List Value}, PySem.W.EachIs (KR h) us bs → Vals (bs.map Prod.fst) us
  | _, _, .nil => .nil
  | _, _, .cons a b => .cons a.1 (vals_rows b)
theorem KR.up {h h1 : Heap} {P : Addr} {ps : Array Value} (hP : h.get? P = some { cls := .none, data := .fields ps }) (k : ∀ b o, b ≠ P → h.get? b = some o → h1.get? b = some o) {u : Value} {b : V × Str} (r : KR h u b) : KR h1 u b := by
  obtain ⟨r1, t, its, tk, e1, e2, e3⟩ := r
  exact ⟨r1, t, its, tk, e1, keep_tup hP k e2, e3⟩
theorem pe_sk0 {c P : Addr} {k : Nat} {x : Str} {params : Arguments} {body e : Expr} {scope : Scope} {ta : TA} {p lpos kpos pos : Pos} (TB : LamX.TabB X.base X.mg c P) (hcode : X.env.code = .ref c) (L : LamOk x params body scope) (hr : Room k X.A) (ha : PA X [e] ta)
    (hdef : defaultsOf params X.env = ([], [])) (hm : X.mg "sorted" = none) (hg : Gl X "sorted")
    (h1 : backTo pos (starEach [e] X.env) = (false, eval e X.env) :: backTo pos (starEach [] X.env) := by rfl) (h2 : (backTo pos (starEach [e] X.env)).any (·.1) = false := by rfl) :
    PE X (.Call (.Name "sorted" p) [e] [⟨some "key", .Lambda params body scope lpos, kpos⟩] pos) (tSK0 X.K P (X.env.qual ++ "<lambda>") ta) := by
  refine ⟨fun pins s σ H Q I h => ?_⟩
  refine wpAny_Call_Name_kw (ld_blt I hg hm bl_sorted ?_)
  refine PyProof.Rows.callWith_kw (thn (ha.run pos pins s σ H _ I h) fun us s1 ⟨vs, H1, I1, r1, q1⟩ => ?_) h1 h2
  obtain ⟨a, xs, bs, ps, rfl, hs, hb, hk, hl, hP, ht, hco, q⟩ := q1
  obtain ⟨u, rfl, ru⟩ := vals1 r1
  obtain rfl : u = Value.ref a := ru
  obtain ⟨its, rv, pl, hz⟩ := I1.list hs
  have gP : s1.heap.get? P = some { cls := .none, data := .fields ps } := I1.hok P _ hP
  rw [← hb] at rv
  have er := each_rows I1 rv hk
  show wpAny _ _ (evalAll ((do let v ← eval (.Lambda params body scope lpos) X.env; standAt pos; pure v) :: [])) _ _ s1
  refine wpAny_evalAll_cons (wpAny_bind (lam_new I1 TB hcode hP ht hco hdef L.free fun f c' pm ctv cl H2 g2 k2 I2 kp hf hcr hmade => wpAny_bind (wpAny_standAt (wpAny_pure (wpAny_evalAll_nil ?_)))))
  show wpAny _ _ (PySem.call (.builtin "sorted") [.ref a] [(Str.ofString "key", .ref f)]) _ _ _
  refine PySem.W.sorted_key_data (s := { s1 with heap := g2, toks := k2 }) (bs := bs) (R := KR g2) (b := false) (f := .ref f) byK (keep_list gP kp pl.isList) ?_ ?_ ?_ hl ?_ (PyProof.Rows.ksk_s1 _ _) (fun _ => PyProof.Rows.ksk_l1 _ _) (fun _ => PyProof.Rows.ksk_t1 _ _) ?_ ?_
  · exact er.mono fun u b r => r.up gP kp
  · intro d m d' m'
    obtain ⟨b, _, rfl⟩ := List.mem_map.mp m
    obtain ⟨b', _, rfl⟩ := List.mem_map.mp m'
    rfl
  · refine .inr fun d m => ?_
    obtain ⟨b, _, rfl⟩ := List.mem_map.mp m
    exact ⟨fun z => (nomatch z), fun _ z => nomatch z⟩
  · intro b m
    have := hr.units
    have hd : (byK b).depth = 0 := by simp [byK, PyData.depth]
    omega
  · rintro v b ⟨_, t, its', tk, rfl, e2, e3⟩ _ h tk' up
    have et : IsTup h t its'.toArray := by
      obtain ⟨o, z1, z2⟩ := e2
      exact ⟨o, up _ _ z1, z2⟩
    refine lam_at (A := X.A.in1.in1) (s := { s1 with heap := h, toks := tk' }) L (up _ _ hf) (hcr.keeps up) ?_ ?_ et e3
    · exact hr.depth
    · exact I2.nolimit.keeps up
  · intro out c2 h' tk' up fr hD hlen eo
    have fp : H2 (g2.objs.size + 1) = none := I2.hok.fresh (Nat.le_succ _)
    refine ⟨.ref (g2.objs.size + 1), _, I2.laid (t' := tk') up (Nat.le_succ _) ?_, rfl, q H2 hmade _ fp⟩
    exact ⟨by rw [List.length_map, List.length_mergeSort]; exact hl, out, c2, vals_rows eo, hD⟩
end
/-! ### .. on data -/
def keyZ : D → Str
  | .tup (.str z :: _) => z
  | _ => ""
def KeyD (d : D) : Prop := ∃ z r, d = D.tup (.str z :: r)
def leK : D → D → Bool := PySem.W.dataLe false fun d : D => PyData.str (keyZ d)
def dSortK0 : List D → Hap → Option D := fun ds h => match ds with
  | [d] => (getL d h).bind fun xs => if (∀ x ∈ xs, KeyD x) ∧ xs.length ≤ sizeLine then some (.lst (xs.mergeSort leK)) else none
  | _ => none
section
variable {K : PySem.W.Frag} {w : Wd} {H : Hp} {h : Hap}
theorem Ok.made [Tbl] (ok : Ok K w H h) {P c' : Addr} {q : Str} {ps qs : Array Value} (hm : (P, q) ∈ Tbl.T) (hu : ∀ p ∈ Tbl.T, p.1 = P → p.2 = q) (hP : H P = some (.tbl ps)) (nC : H c' = none) (ht : PySem.TriplesOk qs.toList)
    (hq : ∀ (pos : Pos) (cv : Value), PySem.codeAmong pos qs.toList = some cv → PySem.codeAmong pos ps.toList = some cv ∨ cv = .ref c') :
    Ok K ⟨upd w.F c' (LamX.CodeO c' q), w.ρ⟩ (upd (upd H P (.tbl qs)) c' (LamX.CodeO c' q)) h ∧ Step w H ⟨upd w.F c' (LamX.CodeO c' q), w.ρ⟩ (upd (upd H P (.tbl qs)) c' (LamX.CodeO c' q)) := by
  obtain ⟨f0, r0⟩ := ok.fresh nC
  have y0 := ok.tab _ hm
  have fP : w.F P = none := y0.f
  have fm : ∀ a u, w.F a = some u → upd w.F c' (LamX.CodeO c' q) a = some u := fun a u e => by
    rw [upd_ne (ne_of_none e f0)]
    exact e
  have old : ∀ a o, H a = some o → NT o → upd (upd H P (.tbl qs)) c' (LamX.CodeO c' q) a = some o := fun a o e n => by
    rw [upd_ne (ne_of_none e nC), upd_ne (fun z => by rw [z, hP] at e; cases e; exact n ps rfl)]
    exact e
  refine ⟨⟨fun a u e => ?_, ok.len, fun i a c e1 e2 => ?_, ok.nd, fun x m => ?_⟩, ⟨fm, ⟨[], by simp⟩, fun a u _ n e => old a u e n, fun a e => ?_, fun a m => .inl m, fun a u e => ?_⟩⟩
  · have e : upd w.F c' (LamX.CodeO c' q) a = some u := e
    by_cases z : a = c'
    · subst z
      rw [upd_same] at e ⊢
      exact e
    · rw [upd_ne z] at e
      rw [upd_ne z, upd_ne (fun y => by rw [y, fP] at e; cases e)]
      exact ok.sub a u e
  · have x := ok.cel i a c e1 e2
    obtain ⟨u, e3, n3⟩ := x.ex ok
    refine x.up (w' := ⟨upd w.F c' (LamX.CodeO c' q), w.ρ⟩) fm (fun _ _ e => e) (fun z => ?_) (by rw [old a u e3 n3, e3])
    show upd w.F c' _ a = none
    rw [upd_ne (ne_of_none e3 nC)]
    exact z
  · have y := ok.tab x m
    obtain ⟨ps', e1, e2, e3⟩ := y.t
    have n1 : x.1 ≠ c' := ne_of_none e1 nC
    by_cases hx : x.1 = P
    · have e4 := hu x m hx
      refine ⟨by show upd w.F c' _ x.1 = none; rw [upd_ne n1]; exact y.f, qs, by rw [upd_ne n1, hx, upd_same], ht, fun pos cv hc => ?_⟩
      rcases hq pos cv hc with z | z
      · rw [hx, hP] at e1
        cases e1
        obtain ⟨c, e5, e6⟩ := e3 pos cv z
        exact ⟨c, e5, fm _ _ e6⟩
      · exact ⟨c', z, by rw [e4]; exact upd_same⟩
    · exact y.up (by show upd w.F c' _ x.1 = _; rw [upd_ne n1]) fm (by rw [upd_ne n1, upd_ne hx])
  · by_cases z : a = c'
    · subst z; exact absurd nC e
    · rw [upd_ne z]
      by_cases z2 : a = P
      · rw [z2, upd_same]; exact fun z => nomatch z
      · rw [upd_ne z2]; exact e
  · by_cases z : a = c'
    · subst z; exact .inr nC
    · have e' : upd w.F c' (LamX.CodeO c' q) a = some u := e
      rw [upd_ne z] at e'
      exact .inl e'
end
theorem e_sortK0 [Tbl] {X : Cx} {W : WX} {c P : Addr} {k : Nat} {x q : Str} {params : Arguments} {body e : Expr} {scope : Scope} {ma : MA} {p lpos kpos pos : Pos} (TB : LamX.TabB X.base X.mg c P) (hcode : X.env.code = .ref c) (hq : X.env.qual ++ "<lambda>" = q) (hmem : (P, q) ∈ Tbl.T) (hu : ∀ p ∈ Tbl.T, p.1 = P → p.2 = q)
    (L : LamOk x params body scope) (hr : Room k X.A) (hm : X.mg "sorted" = none) (hg : Gl X "sorted") (ha : PA X [e] (tA X.K X.mg W ma))
    (hdef : defaultsOf params X.env = ([], []) := by rfl) (h1 : backTo pos (starEach [e] X.env) = (false, eval e X.env) :: backTo pos (starEach [] X.env) := by rfl) (h2 : (backTo pos (starEach [e] X.env)).any (·.1) = false := by rfl) :
    PE X (.Call (.Name "sorted" p) [e] [⟨some "key", .Lambda params body scope lpos, kpos⟩] pos) (tE X.K X.mg W (mCB dSortK0 ma)) := PE.imp (pe_sk0 TB hcode L hr ha hdef hm hg h1 h2) fun σ H Q ⟨w, env, h, ok, er, pp⟩ => by
  rw [hq]
  refine ⟨w, env, h, ok, er, Post.bind pp fun vs ds w1 H1 h1 s1 ok1 v1 p1 => ?_⟩
  obtain ⟨d, ed, qd⟩ := ofO_post p1
  unfold dSortK0 at ed
  split at ed
  · obtain ⟨v, rfl, r⟩ := vrs1 v1
    obtain ⟨ys, e1, e2⟩ := Option.bind_eq_some_iff.mp ed
    split at e2
    · next hS =>
      cases e2
      obtain ⟨hS, hfew⟩ := hS
      obtain ⟨a, vs, rfl, hs, r1⟩ := getL_ok ok1 r e1
      have y0 := ok1.tab _ hmem
      obtain ⟨ps, hP, ht, hco⟩ := y0.t
      have lz := r1.length
      refine ⟨a, vs, (vs.zip ys).map fun z => (z.1, keyZ z.2), ps, rfl, hs, ?_, fun b m => ?_, ?_, hP, ht, fun pos cv hc => ?_, fun H2 hmade p hp => ?_⟩
      · rw [List.map_map]
        show (vs.zip ys).map Prod.fst = vs
        rw [List.map_fst_zip]; omega
      · obtain ⟨z, mz, rfl⟩ := List.mem_map.mp m
        have vz := r1.zip_ok z mz
        have mz2 : z.2 ∈ ys := (List.of_mem_zip mz).2
        obtain ⟨zz, rr, ez⟩ := hS z.2 mz2
        obtain ⟨v, y⟩ := z
        have ez : y = .tup (.str zz :: rr) := ez
        subst ez
        have vz : VR X.K w1 v (.tup (.str zz :: rr)) := vz
        cases vz with
        | tup e t =>
          cases t with
          | cons t1 t2 =>
            cases t1
            exact ⟨_, _, rfl, sqT_mono ok1.sub e⟩
      · rw [List.length_map, List.length_zip]; omega
      · obtain ⟨c2, e5, e6⟩ := hco pos cv hc
        exact ⟨c2, e5, ok1.sub _ _ e6⟩
      · have vsort : ∀ {w2 : Wd}, VRs X.K w2 vs ys → VRs X.K w2 ((((vs.zip ys).map fun z => (z.1, keyZ z.2)).mergeSort (PySem.W.dataLe false byK)).map Prod.fst) (ys.mergeSort leK) := fun {w2} r2 => by
          have m1 : ((vs.zip ys).map fun z => (z.1, keyZ z.2)).mergeSort (PySem.W.dataLe false byK) = ((vs.zip ys).mergeSort fun a b => leK a.2 b.2).map fun z => (z.1, keyZ z.2) :=
            (PySem.W.sort_maps (r := fun a b : V × D => leK a.2 b.2) (s := PySem.W.dataLe false byK) (fun z => (z.1, keyZ z.2)) (l := vs.zip ys) fun _ _ _ _ => rfl).symm
          have m2 : ((vs.zip ys).mergeSort fun a b => leK a.2 b.2).map Prod.snd = ys.mergeSort leK := by
            have z := PySem.W.sort_maps (r := fun a b : V × D => leK a.2 b.2) (s := leK) Prod.snd (l := vs.zip ys) fun _ _ _ _ => rfl
            rw [z, zip_snd lz]
          rw [m1, List.map_map, ← m2]
          exact vrs_of fun p m => r2.zip_ok p (List.mem_mergeSort.mp m)
        rcases hmade with rfl | ⟨more, c', nC, rfl, ht', hq'⟩
        · exact qd _ _ _ (ok1.alloc hp).2 (ok1.alloc hp).1 (vr_lst ok1 hp (vsort r1))
        · obtain ⟨ok2, st2⟩ := ok1.made hmem hu hP nC ht' hq'
          exact qd _ _ _ (st2.trans (ok2.alloc hp).2) (ok2.alloc hp).1 (vr_lst ok2 hp (vsort (r1.mono st2)))
    · cases e2
  · cases ed
/-! ### a def that makes a lambda -/
structure HasL [Tbl] (K : PySem.W.Frag) (mg : Str → Option Value) (base : Heap) (x : Str) (st : Stmt) (ps : List Str) : Prop where
  ex : ∃ (f : Addr) (fd : FuncData) (c P : Addr), Fun K x x st f fd ∧ fd.code = .ref c ∧ mg x = some (.ref f) ∧ Binds K fd ps [] ∧ LamX.TabB base mg c P ∧ (P, x ++ ".<locals>." ++ "<lambda>") ∈ Tbl.T ∧ ∀ p ∈ Tbl.T, p.1 = P → p.2 = x ++ ".<locals>." ++ "<lambda>"
theorem OkF.mkL [Tbl] {P : Program} {wd : World} {K : PySem.W.Frag} {mg : Str → Option Value} {base : Heap} {k n z : Nat} {b : MS} {m : MF} {x : Str} {st : Stmt} {N ps : List Str} (h : HasL K mg base x st ps) (S : FnScope N ps (defScope st)) (hn : ps.length = n) (hN : N.length = z) (hm : m = run z b)
    (hbody : ∀ (f c PT : Addr) (A : Around) (outer : List PySem.Env) (s : Shared) (H : Hp) (E : XK), LamX.TabB base mg c PT → (PT, x ++ ".<locals>." ++ "<lambda>") ∈ Tbl.T → (∀ p ∈ Tbl.T, p.1 = PT → p.2 = x ++ ".<locals>." ++ "<lambda>") → Room k (A.deeper (envOfC x (defScope st) s.heap.objs.size f (.ref c))) →
      PSs (cxOf (L2N.CX P wd) P wd K mg base N x (defScope st) f (.ref c) A outer s H E) (defBody st) (tS K mg (fun cls d _ H => E cls d H) b)) : OkF P wd K mg base x (k + 1) n m := by
  obtain ⟨f, fd, c, PT, F, hc, hf, hb, TB, h1, h2⟩ := h.ex
  subst hn hN hm
  refine ⟨f, fd, ps, hf, F.kp, hb, ?_⟩
  obtain ⟨c1, c2, c3, c4, c5, c6, c7, c8, c9, rfl, l, hcd⟩ := F.ex
  have hc : c7 = .ref c := hc
  subst hc
  refine fn_of l hcd S (fun vs H Q E h => h.1) fun A outer s H vs Q E hr h => ?_
  obtain ⟨hl, w, ds, h, ok, r, p⟩ := h
  refine ⟨_, hbody f c PT A outer s H E TB h1 h2 hr, w, env0 N.length ds, h, ok, env0_ok r, ?_⟩
  unfold run at p
  revert p
  cases b (env0 N.length ds) h with
  | nx e1 h1 => exact fun p σ' w' H' s ok' er' => p _ _ _ s ok' .non
  | bk e1 h1 => exact fun p => p.elim
  | ct e1 h1 => exact fun p => p.elim
  | rt e1 h1 => exact fun p => p
  | er c fs e1 h1 => exact fun p cv d σ' w' H' hc s ok' er' x => p cv d w' H' hc s ok' x
  | stuck => exact fun p => p
end
end Vi

set_option Elab.async false
set_option linter.all false
set_option autoImplicit false
set_option maxRecDepth 100000
set_option maxHeartbeats 2000000
namespace Vi
open PySem PySem.Spec PyProof.Rows L2
open scoped Classical
noncomputable section
/-! ### list(x), a list that will change -/
def mCelL (a : MA) : ME := fun env h => (a env h).bind fun ds h1 => match ds with
  | [d] => match getQ d h1 with
    | some xs => .ok (.ref h1.length) (h1 ++ [.lst xs])
    | none => .stuck
  | _ => .stuck
theorem e_celL [Tbl] {X : Cx} {W : WX} {e : Expr} {m : MA} {p pos : Pos} (hg : Gl X "list") (hm : X.mg "list" = none) (ha : PA X [e] (tA X.K X.mg W m))
    (he : starEach [e] X.env = (false, eval e X.env) :: starEach [] X.env := by rfl) (hpl : (backTo pos (starEach [] X.env)).any (·.1) = false := by rfl) : PE X (.Call (.Name "list" p) [e] [] pos) (tE X.K X.mg W (mCelL m)) := PE.imp (pe_callTy call_list_of hg hm bl_list ha (by decide) (by decide) he hpl) fun σ H Q ⟨w, env, h, ok, er, pp⟩ =>
  ⟨w, env, h, ok, er, Post.bind pp fun vs ds w1 H1 h1 s1 ok1 v1 p1 => by
    split at p1
    · next d =>
      obtain ⟨x, rfl, r⟩ := vrs1 v1
      split at p1
      · next xs q =>
        obtain ⟨a, ys, rfl, hs, r1⟩ := getQ_ok ok1 r q
        refine ⟨a, ys, rfl, hs, fun l hl => ?_⟩
        have z := ok1.cell (c := .lst xs) (o := .lst ys) hl r1
        refine p1 _ _ _ z.2 z.1 (.ref ?_)
        show (w1.ρ ++ [l])[h1.length]? = some l
        rw [← ok1.len, List.getElem?_append_right (Nat.le_refl _), Nat.sub_self]
        rfl
      · exact p1.elim
    · exact p1.elim⟩
theorem x_celL {h : Hap} {env : Env} {a : MA} {P : D → Hap → Prop} (s : Sat (a env h) fun ds h1 => ∃ d xs, ds = [d] ∧ getQ d h1 = some xs ∧ P (.ref h1.length) (h1 ++ [.lst xs])) : Sat (mCelL a env h) P := Sat.bind (s.mono fun ds h1 ⟨d, xs, e1, e2, p⟩ => by
  subst e1
  simp only []
  rw [e2]
  exact p)
/-! ### defs that make lambdas: the law's own, the facts of the top -/
theorem okfnL [Tbl] {P : Program} {wd : World} {K : PySem.W.Frag} {mg : Str → Option Value} {base : Heap} {k n z : Nat} {b : MS} {m : MF} {x : Str} {st : Stmt} {N ps : List Str} {f c PT : Addr} {fd : FuncData} (F : Fun K x x st f fd) (hc : fd.code = .ref c) (TB : LamX.TabB base mg c PT) (h1 : (PT, x ++ ".<locals>." ++ "<lambda>") ∈ Tbl.T) (h2 : ∀ p ∈ Tbl.T, p.1 = PT → p.2 = x ++ ".<locals>." ++ "<lambda>")
    (S : FnScope N ps (defScope st)) (hn : ps.length = n) (hN : N.length = z) (hm : m = run z b)
    (hbody : ∀ (A : Around) (outer : List PySem.Env) (s : Shared) (H : Hp) (E : XK), LamX.TabB base mg c PT → (PT, x ++ ".<locals>." ++ "<lambda>") ∈ Tbl.T → (∀ p ∈ Tbl.T, p.1 = PT → p.2 = x ++ ".<locals>." ++ "<lambda>") → Room k (A.deeper (envOfC x (defScope st) s.heap.objs.size f (.ref c))) →
      PSs (cxOf (L2N.CX P wd) P wd K mg base N x (defScope st) f (.ref c) A outer s H E) (defBody st) (tS K mg (fun cls d _ H => E cls d H) b)) : FnOk P wd K mg base (L2N.CX P wd) (k + 1) f fd ps (spM K mg n m) := by
  subst hn hN hm
  obtain ⟨c1, c2, c3, c4, c5, c6, c7, c8, c9, rfl, l, hcd⟩ := F.ex
  have hc : c7 = .ref c := hc
  subst hc
  refine fn_of l hcd S (fun vs H Q E h => h.1) fun A outer s H vs Q E hr h => ?_
  obtain ⟨hl, w, ds, h, ok, r, p⟩ := h
  refine ⟨_, hbody A outer s H E TB h1 h2 hr, w, env0 N.length ds, h, ok, env0_ok r, ?_⟩
  unfold run at p
  revert p
  cases b (env0 N.length ds) h with
  | nx e1 h1 => exact fun p σ' w' H' s ok' er' => p _ _ _ s ok' .non
  | bk e1 h1 => exact fun p => p.elim
  | ct e1 h1 => exact fun p => p.elim
  | rt e1 h1 => exact fun p => p
  | er c fs e1 h1 => exact fun p cv d σ' w' H' hc s ok' er' x => p cv d w' H' hc s ok' x
  | stuck => exact fun p => p
section
variable {K : PySem.W.Frag} {x : Str} {f c PT : Addr} {h : Heap} {mg mb : Str → Option Value}
theorem code_of_tab {oc : Value} {od : Option Addr} {fd : FuncData} {sl : Array (Option Value)} (a : PySem.W.nsIn K mainGlobals x = some (some (.ref f))) (l : K.lookup f = some ⟨oc, od, .func fd, sl⟩) (t : PySem.W.tabIn K x = some (c, PT)) : fd.code = .ref c := by
  unfold PySem.W.tabIn at t
  rw [a] at t
  simp only [] at t
  rw [l] at t
  simp only [] at t
  split at t
  · next c' hc =>
    split at t
    · split at t
      · cases t
        exact hc
      · cases t
    · cases t
  · cases t
theorem no_tab (X : K.In h) (n : PySem.W.noTabs K = true) (e : h.get? PT = some { cls := .none, data := .fields #[] }) : K.lookup PT = none := by
  cases q : K.lookup PT with
  | none => rfl
  | some o =>
    have e2 := X _ _ q
    rw [e] at e2
    cases e2
    have h2 := List.all_eq_true.mp n (PT, _) (PySem.W.mem_of_lookupK q)
    cases h2
theorem tab_facts {q : Program} {loose : List Str} {mean : ExcName → Option Value} {d : DefRec} (X : K.In h) (T : Top q loose mean mg mb h) (n : PySem.W.noTabs K = true) (hr : (recsOf q).find? (fun e => e.name == x) = some d) (t : PySem.W.tabIn K x = some (c, PT)) :
    h.get? PT = some { cls := .none, data := .fields #[] } ∧ K.lookup PT = none ∧ PySem.W.CodeHd h c PT := by
  obtain ⟨h1, h2⟩ := PySem.W.tab_of T X hr t
  exact ⟨h2, no_tab X n h2, h1⟩
end
end
end Vi

set_option Elab.async false
set_option linter.all false
set_option autoImplicit false
set_option maxRecDepth 100000
set_option maxHeartbeats 2000000
namespace Vi
open PySem PySem.Spec PyProof.Rows L2
open scoped Classical
/-! ### what a mirror that may raise satisfies -/
abbrev EX := Str → Option (List (Str × D)) → Hap → Prop
abbrev EXS := Str → Option (List (Str × D)) → Env → Hap → Prop
def SatX {α : Type} (r : Rs α) (P : α → Hap → Prop) (E : EX) : Prop := match r with
  | .ok a h => P a h
  | .err c fs h => E c fs h
  | .stuck => False
def SatSX (r : RS) (P : Ps) (E : EXS) : Prop := match r with
  | .nx e h => P.n e h
  | .rt d h => P.r d h
  | .bk e h => P.b e h
  | .ct e h => P.c e h
  | .er c fs e h => E c fs e h
  | .stuck => False
section
variable {α β : Type} {P : α → Hap → Prop} {Q : Ps} {h : Hap} {env : Env} {E : EX} {F : EXS}
theorem SatX.of {r : Rs α} (s : Sat r P) : SatX r P E := by
  cases r with
  | ok a h => exact s
  | err => exact s.elim
  | stuck => exact s.elim
theorem SatSX.of {r : RS} (s : SatS r Q) : SatSX r Q F := by
  cases r with
  | nx e h => exact s
  | rt e h => exact s
  | bk e h => exact s
  | ct e h => exact s
  | er => exact s.elim
  | stuck => exact s.elim
theorem SatX.mono {r : Rs α} {P' : α → Hap → Prop} {E' : EX} (s : SatX r P E) (i : ∀ a h, P a h → P' a h) (j : ∀ c fs h, E c fs h → E' c fs h) : SatX r P' E' := by
  cases r with
  | ok a h => exact i a h s
  | err c fs h => exact j c fs h s
  | stuck => exact s
theorem SatX.sat {r : Rs α} (s : SatX r P fun _ _ _ => False) : Sat r P := by
  cases r with
  | ok a h => exact s
  | err => exact s
  | stuck => exact s
/-- behind a part that does not raise -/
theorem X.seq {a b : MS} (s : SatS (a env h) ⟨fun e h1 => SatSX (b e h1) Q F, Q.r, Q.b, Q.c⟩) : SatSX (mSeq a b env h) Q F := by
  unfold mSeq
  revert s
  cases a env h with
  | nx e h => exact fun s => s
  | rt e h => exact fun s => s
  | bk e h => exact fun s => s
  | ct e h => exact fun s => s
  | er => exact fun s => s.elim
  | stuck => exact fun s => s.elim
theorem X.seqX {a b : MS} (s : SatSX (a env h) ⟨fun e h1 => SatSX (b e h1) Q F, Q.r, Q.b, Q.c⟩ F) : SatSX (mSeq a b env h) Q F := by
  unfold mSeq
  revert s
  cases a env h with
  | nx e h => exact fun s => s
  | rt e h => exact fun s => s
  | bk e h => exact fun s => s
  | ct e h => exact fun s => s
  | er => exact fun s => s
  | stuck => exact fun s => s.elim
theorem X.fn {n : Nat} {b : MS} {ds : List D} {P : D → Hap → Prop} (s : SatSX (b (env0 n ds) h) ⟨fun _ h => P .non h, P, fun _ _ => False, fun _ _ => False⟩ fun c fs _ h => E c fs h) : SatX (run n b ds h) P E := by
  unfold run
  revert s
  cases b (env0 n ds) h with
  | nx e h => exact fun s => s
  | rt e h => exact fun s => s
  | bk e h => exact fun s => s.elim
  | ct e h => exact fun s => s.elim
  | er => exact fun s => s
  | stuck => exact fun s => s.elim
theorem X.ife {t : MT} {a b : MS} (s : Sat (t env h) fun x h1 => (x = true → SatSX (a env h1) Q F) ∧ (x = false → SatSX (b env h1) Q F)) : SatSX (mIfS t a b env h) Q F := by
  unfold mIfS
  revert s
  cases t env h with
  | ok x h1 =>
    intro s
    cases x with
    | true => exact s.1 rfl
    | false => exact s.2 rfl
  | err => exact fun s => s.elim
  | stuck => exact fun s => s.elim
theorem X.raise0 {c : Str} (e : F c none env h) : SatSX (mRaise0 c env h) Q F := e
theorem X.raise {c : Str} {ns : List Str} {a : MA} (s : Sat (a env h) fun xs h1 => xs.length = ns.length ∧ ns.length ≤ 1000 ∧ F c (some (ns.zip xs).reverse) env h1) : SatSX (mRaiseF c ns a env h) Q F := by
  unfold mRaiseF
  revert s
  cases a env h with
  | ok xs h1 =>
    intro s
    show SatSX (if _ then _ else _) _ _
    rw [if_pos ⟨s.1, s.2.1⟩]
    exact s.2.2
  | err => exact fun s => s.elim
  | stuck => exact fun s => s.elim
/-- x = f(..), return f(..), f(..) where f may raise -/
theorem X.bind {m : MF} {a : MA} {k : D → Hap → RS} (s : Sat (a env h) fun xs h1 => SatX (m xs h1) (fun d h2 => SatSX (k d h2) Q F) fun c fs h2 => F c fs env h2) : SatSX (RsS (mCall m a env h) env k) Q F := by
  unfold mCall
  revert s
  cases a env h with
  | ok xs h1 =>
    intro s
    have s : SatX (m xs h1) (fun d h2 => SatSX (k d h2) Q F) fun c fs h2 => F c fs env h2 := s
    show SatSX (RsS (m xs h1) env k) Q F
    revert s
    cases m xs h1 with
    | ok d h2 => exact fun s => s
    | err => exact fun s => s
    | stuck => exact fun s => s.elim
  | err => exact fun s => s.elim
  | stuck => exact fun s => s.elim
theorem X.set {m : MF} {a : MA} {i : Nat} (s : Sat (a env h) fun xs h1 => SatX (m xs h1) (fun d h2 => Q.n (env.set i (some d)) h2) fun c fs h2 => F c fs env h2) : SatSX (mAsg (mCall m a) (gNm i) env h) Q F := X.bind s
theorem X.ret {m : MF} {a : MA} (s : Sat (a env h) fun xs h1 => SatX (m xs h1) Q.r fun c fs h2 => F c fs env h2) : SatSX (mRet (mCall m a) env h) Q F := X.bind s
theorem X.exp {m : MF} {a : MA} (s : Sat (a env h) fun xs h1 => SatX (m xs h1) (fun _ h2 => Q.n env h2) fun c fs h2 => F c fs env h2) : SatSX (mExp (mCall m a) env h) Q F := X.bind s
/-- try: .. except C as e: .. -/
theorem X.tryAs {cs os : List Str} {i : Nat} {b : MS} {su : Str → Option (List (Str × D)) → MS} (s : SatSX (b env h) Q fun c fs e h1 => c ∈ cs ∧ SatS (su c fs (e.set i none) h1) ⟨fun e2 h2 => Q.n (e2.set i none) h2, Q.r, fun e2 h2 => Q.b (e2.set i none) h2, fun e2 h2 => Q.c (e2.set i none) h2⟩) : SatS (mTryAs cs os i b su env h) Q := by
  unfold mTryAs
  revert s
  cases b env h with
  | nx e h => exact fun s => s
  | rt e h => exact fun s => s
  | bk e h => exact fun s => s
  | ct e h => exact fun s => s
  | stuck => exact fun s => s.elim
  | er c fs e h1 =>
    intro s
    obtain ⟨m, s⟩ := s
    show SatS (if _ then _ else _) _
    rw [if_pos m]
    revert s
    cases su c fs (e.set i none) h1 with
    | nx e h => exact fun s => s
    | rt e h => exact fun s => s
    | bk e h => exact fun s => s
    | ct e h => exact fun s => s
    | stuck => exact fun s => s.elim
    | er => exact fun s => s.elim
theorem x_chn {g g' : D → D → Hap → Option D} {a b c : ME} {P : D → Hap → Prop} (s : Sat (a env h) fun x h1 => Sat (b env h1) fun y h2 => ∃ t, g x y h2 = some (.bl t) ∧ (t = true → Sat (c env h2) fun u h4 => Sat (ofO (g' y u h4) h4) P) ∧ (t = false → P (.bl false) h2)) : Sat (mChn g g' a b c env h) P := Sat.bind (s.mono fun x h1 s => Sat.bind (s.mono fun y h2 z => by
  obtain ⟨t, e, z1, z2⟩ := z
  rw [e]
  cases t with
  | true =>
    show Sat ((c env h2).bind fun u h4 => ofO (g' y u h4) h4) P
    exact Sat.bind (z1 rfl)
  | false => exact z2 rfl))
end
/-! ### loops that leave the cells as they were -/
section
variable {env : Env} {h : Hap} {Q : Ps}
theorem x_compFM {s : MI} {vs : List Nat} {g : MG} {c : MT} {e : ME} {P : D → Hap → Prop} (xs : List D) (p : D → Bool) (f : D → D) (hsz : xs.length ≤ sizeLine) (hs : Sat (s env h) fun s h1 => h1 = h ∧ s.1 = xs ∧ s.2 h)
    (he : ∀ x ∈ xs, ∃ e1, g x (wipeE env vs) h = some e1 ∧ Sat (c e1 h) fun t h1 => h1 = h ∧ t = p x ∧ (t = true → Sat (e e1 h) fun d h2 => d = f x ∧ h2 = h)) (k : P (.lst ((xs.filter p).map f)) h) : Sat (mComp s vs g c e env h) P := by
  refine x_compI (fun pre post h1 acc => h1 = h ∧ acc = (pre.filter p).map f) (hs.mono fun s1 h1 z => ?_)
  obtain ⟨rfl, rfl, hg⟩ := z
  refine ⟨⟨rfl, rfl⟩, fun _ _ h2 _ _ z => by rw [z.1]; exact hg, ?_, ?_⟩
  · rintro pre x post h2 acc hx ⟨rfl, rfl⟩
    have hm : x ∈ s1.1 := by rw [hx]; simp
    obtain ⟨e1, q1, q2⟩ := he x hm
    refine ⟨e1, q1, q2.mono fun t h3 z => ?_⟩
    obtain ⟨rfl, rfl, z⟩ := z
    refine ⟨fun ht => ⟨?_, (z ht).mono fun d h4 z => ?_⟩, fun ht => ⟨rfl, ?_⟩⟩
    · have h5 : ((pre.filter p).map f).length ≤ pre.length := by rw [List.length_map]; exact List.length_filter_le _ _
      have h6 : s1.1.length = pre.length + (post.length + 1) := by rw [hx]; simp
      omega
    · obtain ⟨rfl, rfl⟩ := z
      refine ⟨rfl, ?_⟩
      rw [List.filter_append, List.map_append]
      congr 1
      simp [ht]
    · rw [List.filter_append, List.map_append]
      simp [ht]
  · rintro h2 acc ⟨rfl, rfl⟩
    exact k
theorem x_compM {s : MI} {vs : List Nat} {g : MG} {e : ME} {P : D → Hap → Prop} (xs : List D) (f : D → D) (hsz : xs.length ≤ sizeLine) (hs : Sat (s env h) fun s h1 => h1 = h ∧ s.1 = xs ∧ s.2 h)
    (he : ∀ x ∈ xs, ∃ e1, g x (wipeE env vs) h = some e1 ∧ Sat (e e1 h) fun d h2 => d = f x ∧ h2 = h) (k : P (.lst (xs.map f)) h) : Sat (mComp s vs g mYes e env h) P :=
  x_compFM xs (fun _ => true) f hsz hs (fun x m => let ⟨e1, q1, q2⟩ := he x m; ⟨e1, q1, x_yes ⟨rfl, rfl, fun _ => q2⟩⟩) (by rw [List.filter_eq_self.mpr (fun _ _ => rfl)]; exact k)
/-- .. of the signs of a text, of a range's numbers -/
theorem x_signs {m : ME} {z : Str} (hm : Sat (m env h) fun d h1 => d = .str z ∧ h1 = h) : Sat (mI m env h) fun s h1 => h1 = h ∧ s.1 = z.cps.toList.map (fun c => .str (ch c)) ∧ s.2 h := x_mI (hm.mono fun d h1 e => by
  obtain ⟨rfl, rfl⟩ := e
  exact ⟨_, rfl, rfl, rfl, rfl⟩)
theorem x_items {m : ME} {xs : List D} {dd : D} (hd : seqOf dd h = some xs) (hm : Sat (m env h) fun d h1 => d = dd ∧ h1 = h) : Sat (mI m env h) fun s h1 => h1 = h ∧ s.1 = xs ∧ s.2 h := x_mI (hm.mono fun d h1 e => by
  obtain ⟨rfl, rfl⟩ := e
  exact ⟨_, hd, rfl, rfl, hd⟩)
theorem x_nums {a : MA} {j : Int} (hj : -(2 ^ 62) ≤ j ∧ j < 2 ^ 62) (ha : Sat (a env h) fun xs h1 => xs = [.int j] ∧ h1 = h) : Sat (mRng rng1 a env h) fun s h1 => h1 = h ∧ s.1 = rngL 0 j.toNat ∧ s.2 h := x_rng (ha.mono fun d h1 e => by
  obtain ⟨rfl, rfl⟩ := e
  exact x_rng1 hj ⟨rfl, rfl, trivial⟩)
/-- a for that only looks: I holds of the slots in all turns, good of each item that did not end it -/
theorem s_look {s : MI} {g : MG} {b : MS} (xs : List D) (I : Env → Prop) (good : D → Prop) (hs : Sat (s env h) fun s h1 => h1 = h ∧ s.1 = xs ∧ s.2 h) (h0 : I env) (ht : ∀ x ∈ xs, ∀ e, I e → ∃ e1, g x e h = some e1 ∧ SatS (b e1 h) ⟨fun e2 h2 => h2 = h ∧ I e2 ∧ good x, Q.r, Q.n, fun e2 h2 => h2 = h ∧ I e2 ∧ good x⟩)
    (he : ∀ e, I e → (∀ x ∈ xs, good x) → Q.n e h) : SatS (mFor s g b env h) Q := by
  refine s_forI (fun pre post e h1 => h1 = h ∧ I e ∧ ∀ x ∈ pre, good x) (hs.mono fun s1 h1 z => ?_)
  obtain ⟨rfl, rfl, hg⟩ := z
  refine ⟨⟨rfl, h0, by simp⟩, fun _ _ _ h2 _ z => by rw [z.1]; exact hg, ?_, ?_⟩
  · rintro pre x post e h2 hx ⟨rfl, i, hp⟩
    have hm : x ∈ s1.1 := by rw [hx]; simp
    obtain ⟨e1, q1, q2⟩ := ht x hm e i
    refine ⟨e1, q1, q2.mono (fun e2 h2 z => ?_) (fun _ _ z => z) (fun _ _ z => z) (fun e2 h2 z => ?_)⟩
    all_goals
      obtain ⟨rfl, i2, z⟩ := z
      refine ⟨rfl, i2, fun y m => ?_⟩
      rcases List.mem_append.mp m with m | m
      · exact hp y m
      · rw [List.mem_singleton.mp m]
        exact z
  · rintro e h2 ⟨rfl, i, hp⟩
    exact he e i hp
/-- a for whose body may raise -/
theorem X.forI {s : MI} {g : MG} {b : MS} {F : EXS} (I : List D → List D → Env → Hap → Prop) (hs : Sat (s env h) fun s h1 => I [] s.1 env h1 ∧ (∀ pre post e h, s.1 = pre ++ post → I pre post e h → s.2 h) ∧
      (∀ pre x post e h, s.1 = pre ++ x :: post → I pre (x :: post) e h → ∃ e1, g x e h = some e1 ∧ SatSX (b e1 h) ⟨fun e h => I (pre ++ [x]) post e h, Q.r, Q.n, fun e h => I (pre ++ [x]) post e h⟩ F) ∧
      (∀ e h, I s.1 [] e h → Q.n e h)) : SatSX (mFor s g b env h) Q F := by
  unfold mFor
  obtain ⟨⟨xs, gd⟩, h1, e1, z⟩ := hs.ex
  rw [e1]
  obtain ⟨h0, hg, ht, he⟩ := z
  show SatSX (forL gd g b xs env h1) Q F
  have go : ∀ (post pre : List D) (e : Env) (h : Hap), xs = pre ++ post → I pre post e h → SatSX (forL gd g b post e h) Q F := by
    intro post
    induction post with
    | nil =>
      intro pre e h q i
      unfold forL
      rw [if_pos (hg pre [] e h q i)]
      rw [List.append_nil] at q
      subst q
      exact he e h i
    | cons x post ih =>
      intro pre e h q i
      unfold forL
      rw [if_pos (hg pre _ e h q i)]
      obtain ⟨e1, q1, t⟩ := ht pre x post e h q i
      rw [q1]
      show SatSX ((b e1 h).turn (forL gd g b post)) Q F
      revert t
      cases b e1 h with
      | nx e2 h2 => exact fun t => ih (pre ++ [x]) e2 h2 (by simpa using q) t
      | ct e2 h2 => exact fun t => ih (pre ++ [x]) e2 h2 (by simpa using q) t
      | bk e2 h2 => exact fun t => t
      | rt d h2 => exact fun t => t
      | er => exact fun t => t
      | stuck => exact fun t => t.elim
  exact go xs [] env h1 rfl h0
end
end Vi

set_option Elab.async false
set_option linter.all false
set_option autoImplicit false
set_option maxRecDepth 100000
set_option maxHeartbeats 2000000
namespace Vi
open PySem PySem.Spec PyProof.Rows L2
open scoped Classical
noncomputable section
/-! ### a dict that is walked: locked while it is -/
def delF (F : Hp) (a : Addr) : Hp := fun b => if b = a then none else F b
theorem delF_ne {F : Hp} {a b : Addr} (h : b ≠ a) : delF F a b = F b := by
  unfold delF
  rw [if_neg h]
theorem delF_same {F : Hp} {a : Addr} : delF F a a = none := by
  unfold delF
  rw [if_pos rfl]
theorem delF_some {F : Hp} {a b : Addr} {o : HO} (h : delF F a b = some o) : b ≠ a ∧ F b = some o := by
  by_cases e : b = a
  · rw [e, delF_same] at h
    cases h
  · rw [delF_ne e] at h
    exact ⟨e, h⟩
section
variable {K : PySem.W.Frag} {w : Wd} {H : Hp} {h : Hap} {a : Addr} {od : Obj} {vs : List (Key × V)}
mutual
theorem VR.less (fa : w.F a = some (.frz od (.dK vs))) : ∀ {v : V} {d : D}, VR K w v d → VR K ⟨delF w.F a, w.ρ⟩ v d
  | _, _, .non => .non
  | _, _, .bl b => .bl b
  | _, _, .int i => .int i
  | _, _, .str x => .str x
  | _, _, .ty n => .ty n
  | _, _, .lst e t => .lst (by show delF w.F a _ = _; rw [delF_ne (fun z => by rw [z, fa] at e; cases e)]; exact e) (VRs.less fa t)
  | _, _, .klst e t => .klst (by
      rcases e with (e | ⟨o, e⟩) | e
      · exact .inl (.inl (by show delF w.F a _ = _; rw [delF_ne (fun z => by rw [z, fa] at e; cases e)]; exact e))
      · exact .inl (.inr ⟨o, by show delF w.F a _ = _; rw [delF_ne (fun z => by rw [z, fa] at e; cases e)]; exact e⟩)
      · exact .inr e) (VRs.less fa t)
  | _, _, .tup e t => .tup (by
      rcases e with (e | ⟨o, e⟩) | e
      · exact .inl (.inl (by show delF w.F a _ = _; rw [delF_ne (fun z => by rw [z, fa] at e; cases e)]; exact e))
      · exact .inl (.inr ⟨o, by show delF w.F a _ = _; rw [delF_ne (fun z => by rw [z, fa] at e; cases e)]; exact e⟩)
      · exact .inr e) (VRs.less fa t)
  | _, _, .ref e => .ref e
theorem VRs.less (fa : w.F a = some (.frz od (.dK vs))) : ∀ {v : List V} {d : List D}, VRs K w v d → VRs K ⟨delF w.F a, w.ρ⟩ v d
  | _, _, .nil => .nil
  | _, _, .cons r t => .cons (VR.less fa r) (VRs.less fa t)
end
theorem CRel.less (fa : w.F a = some (.frz od (.dK vs))) {o : HO} {c : Cel} (x : CRel K w o c) : CRel K ⟨delF w.F a, w.ρ⟩ o c := by
  cases o <;> cases c <;> first
    | exact VRs.less fa x
    | exact ⟨x.1, VRs.less fa x.2⟩
    | exact ⟨x.1, x.2.1, VRs.less fa x.2.2⟩
    | exact x
theorem Ok.lock [Tbl] (ok : Ok K w H h) {j : Nat} {kds : List (Key × D)} (hj : w.ρ[j]? = some a) (hc : h[j]? = some (.dct kds)) (ha : H a = some (.dK vs)) (r : KVR K w vs kds) :
    Ok K ⟨upd w.F a (.frz od (.dK vs)), w.ρ⟩ (upd H a (.frz od (.dK vs))) (h.set j (.lok kds)) ∧ ∀ b u, w.F b = some u → upd w.F a (.frz od (.dK vs)) b = some u := by
  have f0 : w.F a = none := (ok.cel j a _ hj hc).1
  have fm : ∀ b u, w.F b = some u → upd w.F a (.frz od (.dK vs)) b = some u := fun b u e => by
    rw [upd_ne (ne_of_none e f0)]
    exact e
  have hl : j < w.ρ.length := (List.getElem?_eq_some_iff.mp hj).1
  have hl' : j < h.length := by rw [← ok.len]; exact hl
  refine ⟨⟨fun b u e => ?_, by rw [List.length_set]; exact ok.len, fun i b c e1 e2 => ?_, ok.nd, fun x m => ?_⟩, fm⟩
  · have e : upd w.F a (.frz od (.dK vs)) b = some u := e
    by_cases z : b = a
    · rw [z, upd_same] at e ⊢
      exact e
    · rw [upd_ne z] at e ⊢
      exact ok.sub b u e
  · by_cases q : j = i
    · subst q
      rw [hj] at e1
      cases e1
      rw [List.getElem?_set_self hl'] at e2
      cases e2
      exact ⟨od, vs, upd_same, r.fst, VRs.mono' (w := w) (w' := ⟨upd w.F a (.frz od (.dK vs)), w.ρ⟩) fm (fun _ _ e => e) r.snd⟩
    · rw [List.getElem?_set_ne q] at e2
      have ne : b ≠ a := fun z => by
        subst z
        exact q ((List.getElem?_inj hl ok.nd).mp (by rw [hj, e1]))
      exact (ok.cel i b c e1 e2).up fm (fun _ _ e => e) (fun z => by show upd w.F a _ b = none; rw [upd_ne ne]; exact z) (upd_ne ne)
  · have y := ok.tab x m
    have ne := y.ne (p := a) fun o e => by rw [ha] at e; cases e; exact fun _ z => nomatch z
    exact y.up (by show upd w.F a _ x.1 = _; rw [upd_ne ne]) fm (by rw [upd_ne ne])
theorem Ok.unlock [Tbl] (ok : Ok K w H h) {j : Nat} {kds : List (Key × D)} (hj : w.ρ[j]? = some a) (fa : w.F a = some (.frz od (.dK vs))) (r : KVR K w vs kds) :
    Ok K ⟨delF w.F a, w.ρ⟩ (upd H a (.dK vs)) (h.set j (.dct kds)) := by
  have hl : j < w.ρ.length := (List.getElem?_eq_some_iff.mp hj).1
  have hl' : j < h.length := by rw [← ok.len]; exact hl
  refine ⟨fun b u e => ?_, by rw [List.length_set]; exact ok.len, fun i b c e1 e2 => ?_, ok.nd, fun x m => ?_⟩
  · obtain ⟨ne, e⟩ := delF_some e
    rw [upd_ne ne]
    exact ok.sub b u e
  · by_cases q : j = i
    · subst q
      rw [hj] at e1
      cases e1
      rw [List.getElem?_set_self hl'] at e2
      cases e2
      exact .of delF_same upd_same ⟨r.fst, VRs.less fa r.snd⟩
    · rw [List.getElem?_set_ne q] at e2
      have ne : b ≠ a := fun z => by
        subst z
        exact q ((List.getElem?_inj hl ok.nd).mp (by rw [hj, e1]))
      have x := ok.cel i b c e1 e2
      by_cases hc : ∃ kds, c = .lok kds
      · obtain ⟨kds', rfl⟩ := hc
        obtain ⟨o', v', e3, e4, e5⟩ := x
        exact ⟨o', v', by show delF w.F a b = _; rw [delF_ne ne]; exact e3, e4, VRs.less fa e5⟩
      · obtain ⟨z, o, e3, e4⟩ := x.un fun kds z => hc ⟨kds, z⟩
        exact .of (by show delF w.F a b = _; rw [delF_ne ne]; exact z) (by rw [upd_ne ne]; exact e3) (CRel.less fa e4)
  · have y := ok.tab x m
    have ne : x.1 ≠ a := fun z => by
      have := y.f
      rw [z, fa] at this
      cases this
    obtain ⟨ps, e1, e2, e3⟩ := y.t
    refine ⟨by show delF w.F a x.1 = none; rw [delF_ne ne]; exact y.f, ps, by rw [upd_ne ne]; exact e1, e2, fun pos cv hc => ?_⟩
    obtain ⟨c, e4, e5⟩ := e3 pos cv hc
    refine ⟨c, e4, ?_⟩
    show delF w.F a c = _
    rw [delF_ne (fun z => by rw [z, fa] at e5; unfold LamX.CodeO at e5; cases e5)]
    exact e5
/-- the lock and its end together -/
theorem lock_step {w' : Wd} {H' : Hp} (f0 : w.F a = none) (ar : a ∈ w.ρ) (ha : H a = some (.dK vs)) (st : Step ⟨upd w.F a (.frz od (.dK vs)), w.ρ⟩ (upd H a (.frz od (.dK vs))) w' H') : Step w H ⟨delF w'.F a, w'.ρ⟩ (upd H' a (.dK vs)) := by
  refine ⟨fun b u e => ?_, st.r, fun b u n nt e => ?_, fun b e => ?_, fun b m => ?_, fun b u e => ?_⟩
  · have ne : b ≠ a := ne_of_none e f0
    show delF w'.F a b = some u
    rw [delF_ne ne]
    exact st.f b u (by show upd w.F a _ b = _; rw [upd_ne ne]; exact e)
  · have ne : b ≠ a := fun z => n (by rw [z]; exact ar)
    rw [upd_ne ne]
    exact st.keep b u n nt (by rw [upd_ne ne]; exact e)
  · by_cases ne : b = a
    · rw [ne, upd_same]
      exact fun z => nomatch z
    · rw [upd_ne ne]
      exact st.dom b (by rw [upd_ne ne]; exact e)
  · rcases st.new b m with z | z
    · exact .inl z
    · by_cases ne : b = a
      · exact .inl (by rw [ne]; exact ar)
      · rw [upd_ne ne] at z
        exact .inr z
  · obtain ⟨ne, e⟩ := delF_some e
    rcases st.nf b u e with z | z
    · have z : upd w.F a (.frz od (.dK vs)) b = some u := z
      rw [upd_ne ne] at z
      exact .inl z
    · rw [upd_ne ne] at z
      exact .inr z
end
/-- an expression in which the dict at slot i is walked -/
def mLokE (i : Nat) (m : ME) : ME := fun env h => match env[i]? with
  | some (some (.ref j)) => match h[j]? with
    | some (.dct kds) => match m env (h.set j (.lok kds)) with
      | .ok d h2 => if h2[j]? = some (.lok kds) then .ok d (h2.set j (.dct kds)) else .stuck
      | _ => .stuck
    | _ => .stuck
  | _ => .stuck
theorem e_lok [Tbl] {X : Cx} {W : WX} {i : Nat} {e : Expr} {m : ME} (he : PE X e (tE X.K X.mg W m)) : PE X e (tE X.K X.mg W (mLokE i m)) := PE.imp (pe_lock he) fun σ H Q ⟨w, env, h, ok, er, p⟩ => by
  unfold mLokE at p
  split at p
  · next j ej =>
    split at p
    · next kds hj =>
      obtain ⟨v, e1, e2⟩ := er.get i _ ej
      obtain ⟨a, j', vs, rfl, e3, hr, hc, ha, r⟩ := getD_ok (ds := kds) ok e2 (by unfold getD; dsimp only; rw [hj])
      cases e3
      have f0 : w.F a = none := (ok.cel j a _ hr hc).1
      have ar : a ∈ w.ρ := List.mem_of_getElem? hr
      refine ⟨a, .dK vs, ha, trivial, fun od => ?_⟩
      obtain ⟨ok1, fm⟩ := ok.lock (od := od) hr hc ha r
      refine ⟨_, env, _, ok1, ⟨er.len, fun i d e => ?_⟩, ?_⟩
      · obtain ⟨v, z1, z2⟩ := er.get i d e
        exact ⟨v, z1, VR.mono' (w := w) (w' := ⟨upd w.F a (.frz od (.dK vs)), w.ρ⟩) fm (fun _ _ e => e) z2⟩
      · revert p
        cases m env (h.set j (.lok kds)) with
        | ok d h2 =>
          intro p v w' H' st ok' vr
          have p : Post X.K X.mg (VR X.K) w H (if h2[j]? = some (.lok kds) then .ok d (h2.set j (.dct kds)) else .stuck) Q fun c d H' => W c d σ H' := p
          by_cases hz : h2[j]? = some (.lok kds)
          · rw [if_pos hz] at p
            have fa : w'.F a = some (.frz od (.dK vs)) := st.f _ _ upd_same
            have hr' : w'.ρ[j]? = some a := st.ix hr
            have r' : KVR X.K w' vs kds := by
              refine kvr_of r.fst ?_
              obtain ⟨t, et⟩ := st.r
              refine VRs.mono' (fun b u e => st.f b u (fm b u e)) (fun i b e => ?_) r.snd
              exact st.ix e
            exact ⟨ok'.sub _ _ fa, p v _ _ (lock_step f0 ar ha st) (ok'.unlock hr' fa r') (vr.less fa)⟩
          · rw [if_neg hz] at p
            exact p.elim
        | err c fs h2 => exact fun p => p.elim
        | stuck => exact fun p => p.elim
    · exact p.elim
  · exact p.elim
/-- its keys as what is walked -/
def mIK (i : Nat) : MI := fun env h => match env[i]? with
  | some (some (.ref j)) => match h[j]? with
    | some (.lok kds) => .ok (kds.map (fun kv => keyV kv.1), fun h => h[j]? = some (.lok kds)) h
    | _ => .stuck
  | _ => .stuck
theorem i_keys [Tbl] {X : Cx} {W : WX} {tg : Expr} {i : Nat} {x : Str} {p : Pos} (hN : X.N[i]? = some x) (hv : Vis X.env.scope x) (hd : (x == ("__debug__" : Str)) = false := by decide) (hcd : (x == ("__classdict__" : Str)) = false := by decide) : PI X tg (.Name x p) (tI X.K X.mg W (mIK i)) :=
  PI.imp (pi_keys (e_var (W := W) hN hv hd hcd)) fun σ H R ⟨w, env, h, ok, er, pp⟩ => by
  unfold mIK at pp
  split at pp
  · next j ej =>
    split at pp
    · next kds hj =>
      refine ⟨w, env, h, ok, er, ?_⟩
      unfold mVar
      rw [ej]
      intro v w' H' st ok' vr
      cases vr with
      | ref hr =>
        next a =>
        obtain ⟨od, vs, fa, e2, e3⟩ := ok'.cel j a _ hr hj
        refine ⟨a, od, rfl, .inl ⟨vs, ok'.sub _ _ fa, ?_⟩⟩
        refine pp (Itk a od vs) w' H' st ok' ⟨fun w => w.F a = some (.frz od (.dK vs)), fa, ?_⟩
        have hlen : vs.length = kds.length := by simpa using congrArg List.length e2
        refine ⟨fun w H w' H' s r => s.f _ _ r, fun w H h i ok r g hi => ⟨ok.sub _ _ r, by rw [List.length_map] at hi; omega⟩, fun w H h ok r g => ⟨ok.sub _ _ r, by rw [List.length_map]; omega⟩, fun w H h i y H' ok r g hi q => ?_⟩
        obtain ⟨rfl, k, v, e4, rfl⟩ := q
        refine yld0 ok ⟨rfl, keyV k, ?_, vr_keyV k⟩
        rw [List.getElem?_map]
        have e5 : (vs.map Prod.fst)[i]? = some k := by rw [List.getElem?_map, e4]; rfl
        rw [e2, List.getElem?_map] at e5
        obtain ⟨kv, e6, e7⟩ := Option.map_eq_some_iff.mp e5
        rw [e6, ← e7]
        rfl
    · exact pp.elim
  · exact pp.elim
/-! ### name = {k: v for ..}, on one line -/
section
variable {X : Cx} {W : WX} {kx vx tg iter : Expr} {ifs : List Expr} {scope : Scope} {own : List (Str × Nat)} {pos spos py : Pos} {s : MI} {g : TG} {mg : MG} {us : List Nat} {c : MT} {k e : ME} {i : Nat} {y : Str}
theorem swd_true {env : PySem.Env} {l : Nat} {gs : List Comprehension} (hk : env.scope.kind = .function) (hy : env.scope.names.lookup y = some .local) (hl : (py.line == pos.line) = true) (ha : (scope.names.any fun (n, k) => n == y && (k == .local || k == .cell)) = false) :
    swapsWith (.DictComp kx vx gs scope pos) (some (.Name y py)) l env = pure true := by
  have kind : env.blockKind = .function := by
    unfold PySem.Env.blockKind
    rw [hk]
    rfl
  have own' : env.kindOf y = some .local := hy
  unfold swapsWith
  simp only [kind, own', ha, Expr.pos, hl]
  rfl
theorem ps_nameDc {wi : TI} {tt : TT} {tk tv : TE} (hc : X.calm = true) (hN : X.N.Nodup) (hy : X.N[i]? = some y) (hyl : X.env.scope.names.lookup y = some .local) (hsw : swapsWith (.DictComp kx vx [⟨tg, iter, ifs, 0⟩] scope pos) (some (.Name y py)) spos.line X.env = pure true)
    (hi : PI X tg iter wi) (ok : BlkOk X.N X.env.scope scope own) (hg : ∀ (s : Shared) (H : Hp) (C : Addr) (cl : List (Str × Addr)) (fp : List Addr), PG (X.blk s H scope (compEnvC scope cl C X.env) fp) tg g)
    (ht : ∀ (s : Shared) (H : Hp) (C : Addr) (cl : List (Str × Addr)) (fp : List Addr), PTs (X.blk s H scope (compEnvC scope cl C X.env) fp) ifs tt) (hk : ∀ (s : Shared) (H : Hp) (C : Addr) (cl : List (Str × Addr)) (fp : List Addr), PE (X.blk s H scope (compEnvC scope cl C X.env) fp) kx tk)
    (he : ∀ (s : Shared) (H : Hp) (C : Addr) (cl : List (Str × Addr)) (fp : List Addr), PE (X.blk s H scope (compEnvC scope cl C X.env) fp) vx tv) (hs : ∀ x, foldedSetIterable iter X.env x = pure x) :
    PS X (.Assign [.Name y py] (.DictComp kx vx [⟨tg, iter, ifs, 0⟩] scope pos) spos) (tAsg (tDc wi g tt tk tv (own.map (·.2))) (gName i)) := by
  refine ⟨fun pins st σ H D I h => ?_⟩
  have h : tDc wi g tt tk tv (own.map (·.2)) σ H (fun x H1 => gName i x σ H1 D.nx) := h
  rw [exec_Assign_Name_used _ _ _ _ hsw]
  refine wpAny_bind (wpAny_standAt (wpAny_bind ?_))
  show wpAny _ X.A (do
    let _ ← comprehension (.DictComp kx vx [⟨tg, iter, ifs, 0⟩] scope pos) scope X.env (firstIterPos [⟨tg, iter, ifs, 0⟩] pos) newDict false (eval iter X.env) (some (assign (.Name y py) X.env))) _ _ st
  refine wpAny_bind (thn (dc_core (Qf := fun _ s' => SP X pins D .next s') hc hN I hi ok hg ht hk he hs h ?_) fun _ s' z => wpAny_pure (wpAny_pure z))
  intro L C s' m H' I' q hn fp
  obtain ⟨f0, f1, f2, f3, f4, f5⟩ := fp
  refine wpAny_assign_Name (store_ok2 (v := V.ref L) I' hN hy (.inl hyl) rfl (fun s2 I2 ⟨a, sb, ha⟩ => ?_) (.inr hyl))
  have ne : C ≠ a := by
    rcases ha with z | z
    · rw [z]
      exact f1
    · exact fun w => f4 y a z w.symm
  exact ⟨m, hn.sameBut sb ne, fun h3 sb3 => ⟨_, H', I2.turned (t' := s2.toks) (fun b o hb z => (sb3.2 b hb).trans z) f0 f1 f3 f4 f5, q⟩⟩
theorem s_setDc [Tbl] (hc : X.calm = true) (hN : X.N.Nodup) (hy : X.N[i]? = some y) (hyl : X.env.scope.names.lookup y = some .local) (hsw : swapsWith (.DictComp kx vx [⟨tg, iter, ifs, 0⟩] scope pos) (some (.Name y py)) spos.line X.env = pure true)
    (ok : BlkOk X.N X.env.scope scope own) (hu : ∀ i ∈ us, i ∈ own.map (·.2)) (hb : TgS X.K g mg us) (hi : PI X tg iter (tI X.K X.mg W s)) (hg : ∀ (s : Shared) (H : Hp) (C : Addr) (cl : List (Str × Addr)) (fp : List Addr), PG (X.blk s H scope (compEnvC scope cl C X.env) fp) tg g)
    (ht : ∀ (s : Shared) (H : Hp) (C : Addr) (cl : List (Str × Addr)) (fp : List Addr), PTs (X.blk s H scope (compEnvC scope cl C X.env) fp) ifs (tT X.K X.mg W0 c)) (hk : ∀ (s : Shared) (H : Hp) (C : Addr) (cl : List (Str × Addr)) (fp : List Addr), PE (X.blk s H scope (compEnvC scope cl C X.env) fp) kx (tE X.K X.mg W0 k))
    (he : ∀ (s : Shared) (H : Hp) (C : Addr) (cl : List (Str × Addr)) (fp : List Addr), PE (X.blk s H scope (compEnvC scope cl C X.env) fp) vx (tE X.K X.mg W0 e)) (hs : ∀ x, foldedSetIterable iter X.env x = pure x := by intro _; rfl) :
    PS X (.Assign [.Name y py] (.DictComp kx vx [⟨tg, iter, ifs, 0⟩] scope pos) spos) (tS X.K X.mg W (mAsg (mDComp s (own.map (·.2)) mg c k e) (gNm i))) :=
  PS.imp (ps_nameDc hc hN hy hyl hsw hi ok hg ht hk he hs) (t_asg (t_dcomp (fun _ _ _ h => h) hb hu (fun _ _ _ h => h) (fun _ _ _ h => h) fun _ _ _ h => h) (g_nm i))
end
end
end Vi

set_option Elab.async false
set_option linter.all false
set_option autoImplicit false
set_option maxRecDepth 100000
set_option maxHeartbeats 2000000
namespace Vi
open PySem PySem.Spec PyProof.Rows L2
open scoped Classical
theorem bl_ValueError : bootBuiltins "ValueError" = some (.type "ValueError") := by decide +kernel
/-! ### several clauses, with names and without -/
/-- an error that has come down to a try's frame -/
structure Air (X : Cx) (pins : List (Addr × Obj)) (B : Heap) (sI : Shared) (a : Addr) (cv : Value) (d : Option Addr) (σ : L2.St) (H : Hp) (s : Shared) : Prop where
  iv : Inv X pins σ H sI
  gr : ∀ b o, sI.heap.get? b = some o → b ∉ frs X.stack → B.get? b = some o
  up : sI.heap.UpToSlots s.heap
  fl : HandSPX.FlyingZ B (X.env :: X.outer) a (L2N.Zn cv d) s.heap
  fr : H a = none
  os : s.os = sI.os
  ba : AllBare s.gens
section
variable {X : Cx} {pins : List (Addr × Obj)} {B : Heap} {sI s : Shared} {a : Addr} {cv : Value} {d : Option Addr} {σ : L2.St} {H : Hp}
theorem Air.now (A : Air X pins B sI a cv d σ H s) : Inv X pins σ H s := A.iv.landed A.gr A.fl.1 A.up A.os A.ba
theorem Air.moved {h : Heap} (A : Air X pins B sI a cv d σ H s) (f : HandSPX.FlyingZ B (X.env :: X.outer) a (L2N.Zn cv d) h) (u : s.heap.UpToSlots h) : Air X pins B sI a cv d σ H { s with heap := h } :=
  ⟨A.iv, A.gr, A.up.trans u, f, A.fr, A.os, A.ba⟩
/-- its object, and the state as a suite has it -/
theorem Air.obj (A : Air X pins B sI a cv d σ H s) (hf : X.env.frame = some X.env.locals) : ∃ oe vs, s.heap.get? a = some oe ∧ L2N.Zn cv d oe ∧ oe.data = .fields vs ∧ Inv (X.suite a ((a, oe) :: (X.pn ++ pins))) [] σ H s := by
  obtain ⟨oe, vs, e1, e2, e3⟩ := A.fl.there
  have out : ∀ E ∈ X.env :: X.outer, E.frame ≠ some a := by
    intro E mE q
    obtain ⟨_, o2, e4, nf⟩ := A.fl.2.2.1.mem (List.mem_filterMap.mpr ⟨E, mE, q⟩)
    cases e1.symm.trans e4
    exact nf vs e3
  refine ⟨oe, vs, e1, e2, e3, A.now.suite e1 e3 A.fr (fun q => out X.env List.mem_cons_self (by rw [hf, q])) fun m => ?_⟩
  obtain ⟨E, mE, q⟩ := List.mem_filterMap.mp m
  exact out E (List.mem_cons_of_mem _ mE) q
end
/-- clauses do what is wished of an error of a class -/
def Hands (X : Cx) (hds : List ExceptHandler) (W : Ends → WX) : Prop := ∀ (pins : List (Addr × Obj)) (B : Heap) (sI s : Shared) (a : Addr) (cv : Value) (d : Option Addr) (σ : L2.St) (H : Hp) (D : Ends), X.Ok → Air X pins B sI a cv d σ H s → W D cv d σ H →
  wpAny (model X.prog X.w) X.A (handleBy (.ref a) X.env hds) (SP X pins D) X.xe s
section
variable {X : Cx}
theorem hands_nil {W : WX} (hs : X.stack = X.env :: X.outer) (hf : X.env.frame = some X.env.locals) (tk : L2N.Takes X W) : Hands X [] fun _ => W := by
  intro pins B sI s a cv d σ H D ok A w
  obtain ⟨_, _, _, oe, vs, T, _, _, e1, _, e2, e3, _⟩ := id A.fl
  have up : wpAny (model X.prog X.w) X.A (setFlight (.ref a) X.env.frame) (fun _ t => wpAny (model X.prog X.w) X.A (throw (.ref a) : Sem Flow) (SP X pins D) X.xe t) X.xe s := by
    rw [hf]
    exact HandSPX.setFlight_upZ A.fl fun h held u => wpAny_throw (tk _ _ ⟨a, B, sI, pins, σ, H, cv, d, rfl, A.iv, A.gr, A.up.trans u, .inr (.inr (by rw [hs]; exact held)), A.fr, A.os, A.ba, w⟩)
  refine wpAny_handleBy_nil ?_
  unfold PySem.passOn
  refine wpAny_bind (wpAny_field e1 e2 e3 ?_)
  rw [if_neg (show ¬ ((Value.ref T == Value.none) = true) from by simp)]
  first
    | exact wpAny_bind (wpAny_pure (wpAny_bind up))
    | exact wpAny_bind up
/-- what a clause asks of the class -/
theorem Air.ask {pins : List (Addr × Obj)} {B : Heap} {sI s : Shared} {a : Addr} {cv c : Value} {d : Option Addr} {σ : L2.St} {H : Hp} {x : Str} {np : Pos} {b : Bool} {R : Bool → Shared → Prop} {E E' : Value → Shared → Prop} (A : Air X pins B sI a cv d σ H s) (hf : X.env.frame = some X.env.locals) (hc : L2.Names X x c) (e : PySem.W.exmOne X.K cv c = some b) (r : R b s) :
    wpAny (model X.prog X.w) (X.A.mark (some (.ref a))) (eval (.Name x np) X.env) (fun v t => wpAny (model X.prog X.w) (X.A.mark (some (.ref a))) (excMatches (.ref a) v) R E' t) E s := by
  obtain ⟨oe, vs, e1, e2, e3, S⟩ := A.obj hf
  have L : PySem.W.Looks (model X.prog X.w) s.heap (typeOf (.ref a)) cv := fun _ _ _ _ k q => wpAny_typeOf_ref (k _ _ e1) (by rw [e2.1]; exact q)
  have M := (PySem.W.exm_one (M := model X.prog X.w) A.now.kIn L e).here (A := X.A.mark (some (.ref a))) (E := E') (Q := R) r
  obtain ⟨g, nd, m | ⟨m, v, nn⟩⟩ := hc
  · exact ld_glob (X := X.suite a ((a, oe) :: (X.pn ++ pins))) S g m M nd
  · exact ld_blt (X := X.suite a ((a, oe) :: (X.pn ++ pins))) S g m v M nn nd
theorem hands_skip {W : Ends → WX} {x : Str} {c : Value} {nm : Option Str} {b₀ : Stmt} {suite : List Stmt} {np pos : Pos} {r : List ExceptHandler} (hf : X.env.frame = some X.env.locals) (hc : L2.Names X x c) (hr : Hands X r W) :
    Hands X (.ExceptHandler (some (.Name x np)) nm (b₀ :: suite) pos :: r) fun D cv d σ H => PySem.W.exmOne X.K cv c = some false ∧ W D cv d σ H := by
  intro pins B sI s a cv d σ H D ok A ⟨e, w⟩
  exact wpAny_handleBy_cons (codeAny_handlers_test (A.ask hf hc e (hr pins B sI s a cv d σ H D ok A w))) (by intro q; cases q)
theorem hands_as {W : Ends → WX} {x n : Str} {c : Value} {i : Nat} {b₀ : Stmt} {suite : List Stmt} {np pos : Pos} {r : List ExceptHandler} {ts : Addr → Value → Option Addr → TS} (hf : X.env.frame = some X.env.locals) (hN : X.N.Nodup) (hi : X.N[i]? = some n) (hln : X.env.kindOf n = some .local) (hc : L2.Names X x c)
    (hsu : ∀ (a : Addr) (oe : Obj) (cv : Value) (d : Option Addr) (pn : List (Addr × Obj)), L2N.Zn cv d oe → (∃ vs, oe.data = .fields vs) → PSs (X.suite a ((a, oe) :: pn)) (b₀ :: suite) (ts a cv d)) (hr : Hands X r W) :
    Hands X (.ExceptHandler (some (.Name x np)) (some n) (b₀ :: suite) pos :: r) fun D cv d σ H => ∃ b, PySem.W.exmOne X.K cv c = some b ∧
      (b = true → ∀ a, H a = none → ts a cv d { nx := fun t G => D.nx (t.set i none) G, rt := D.rt, bk := fun t G => D.bk (t.set i none) G, ct := fun t G => D.ct (t.set i none) G } (σ.set i (some (.ref a))) H) ∧ (b = false → W D cv d σ H) := by
  intro pins B sI s a cv d σ H D ok A ⟨b, e, w1, w2⟩
  refine wpAny_handleBy_cons (codeAny_handlers_test (A.ask hf hc e ?_)) (by intro q; cases q)
  cases b with
  | false => exact hr pins B sI s a cv d σ H D ok A (w2 rfl)
  | true =>
    refine codeAny_handlers_suite_as (HandSPX.lands_againZ A.fl fun h f u => ?_)
    have A2 := A.moved f u
    obtain ⟨oe, vs, e1, e2, e3, S⟩ := A2.obj hf
    refine store_ok (X := X.suite a ((a, oe) :: (X.pn ++ pins))) (v := .ref a) S hN hi (.inl hln) rfl (fun t T => ?_) (.inr hln)
    refine wpAny_mono ((hsu a oe cv d (X.pn ++ pins) e2 ⟨_, e3⟩).run [] t _ H _ T (w1 rfl a A.fr)) (fun fl t2 q => ?_) fun _ _ z => z.elim
    have out : ∀ {σ2 : L2.St} {H2 : Hp} {Q : Shared → Prop}, Inv (X.suite a ((a, oe) :: (X.pn ++ pins))) [] σ2 H2 t2 → (∀ t3, Inv X pins (σ2.set i none) H2 t3 → Q t3) →
        wpAny (model X.prog X.w) X.A (do bindName X.env n .none; unbindBehindTheSuite X.env n pos) (fun _ t3 => Q t3) X.xe t2 := fun S2 k => gone_ok (S2.unsuite ok) hN hi hln k
    cases fl with
    | next => obtain ⟨_, _, S2, q⟩ := q; exact out S2 fun t3 J => ⟨_, _, J, q⟩
    | brk => obtain ⟨_, _, S2, q⟩ := q; exact out S2 fun t3 J => ⟨_, _, J, q⟩
    | cont => obtain ⟨_, _, S2, q⟩ := q; exact out S2 fun t3 J => ⟨_, _, J, q⟩
    | ret u => obtain ⟨_, _, _, S2, rv, q⟩ := q; exact out S2 fun t3 J => ⟨_, _, _, J, rv, q⟩
theorem hands_no {W : Ends → WX} {x : Str} {c : Value} {b₀ : Stmt} {suite : List Stmt} {np pos : Pos} {r : List ExceptHandler} {ts : TS} (hf : X.env.frame = some X.env.locals) (hc : L2.Names X x c)
    (hsu : ∀ (a : Addr) (oe : Obj) (cv : Value) (d : Option Addr) (pn : List (Addr × Obj)), L2N.Zn cv d oe → (∃ vs, oe.data = .fields vs) → PSs (X.suite a ((a, oe) :: pn)) (b₀ :: suite) ts) (hr : Hands X r W) :
    Hands X (.ExceptHandler (some (.Name x np)) none (b₀ :: suite) pos :: r) fun D cv d σ H => ∃ b, PySem.W.exmOne X.K cv c = some b ∧ (b = true → ts D σ H) ∧ (b = false → W D cv d σ H) := by
  intro pins B sI s a cv d σ H D ok A ⟨b, e, w1, w2⟩
  refine wpAny_handleBy_cons (codeAny_handlers_test (A.ask hf hc e ?_)) (by intro q; cases q)
  cases b with
  | false => exact hr pins B sI s a cv d σ H D ok A (w2 rfl)
  | true =>
    refine codeAny_handlers_suite (HandSPX.lands_againZ A.fl fun h f u => ?_)
    have A2 := A.moved f u
    obtain ⟨oe, vs, e1, e2, e3, S⟩ := A2.obj hf
    refine wpAny_mono ((hsu a oe cv d (X.pn ++ pins) e2 ⟨_, e3⟩).run [] _ _ H _ S (w1 rfl)) (fun fl t2 q => ?_) fun _ _ z => z.elim
    cases fl with
    | next => obtain ⟨_, _, S2, q⟩ := q; exact ⟨_, _, S2.unsuite ok, q⟩
    | brk => obtain ⟨_, _, S2, q⟩ := q; exact ⟨_, _, S2.unsuite ok, q⟩
    | cont => obtain ⟨_, _, S2, q⟩ := q; exact ⟨_, _, S2.unsuite ok, q⟩
    | ret u => obtain ⟨_, _, _, S2, rv, q⟩ := q; exact ⟨_, _, _, S2.unsuite ok, rv, q⟩
theorem ps_hands {W : Ends → WX} {body : List Stmt} {h₀ : ExceptHandler} {hds : List ExceptHandler} {pos : Pos} {tb : WX → TS} (hs : X.stack = X.env :: X.outer) (hf : X.env.frame = some X.env.locals)
    (hb : ∀ (W : WX) (pn : List (Addr × Obj)) (xe : Value → Shared → Prop), L2N.Takes (X.tr pn xe) W → PassesOwn (model X.prog X.w) X.A X.env xe → PSs (X.tr pn xe) body (tb W)) (hh : Hands X (h₀ :: hds) W) :
    PS X (.Try body (h₀ :: hds) [] [] pos) fun D σ H => tb (W D) D σ H := by
  refine ⟨fun pins s σ H D I h => wpAny_Try_except ?_⟩
  have ok := I.ok
  have fr : X.A.frames = some (X.env :: X.outer) := by rw [ok.frames, hs]
  refine wpAny_mono ((hb (W D) (X.pn ++ pins) _ ?_ PassesOwn.looking).run [] s σ H D (I.toTry _) h) (fun f t q => ?_) fun _ _ z => z
  · rintro u t ⟨a, B, sI, pins2, σ2, H2, cv, d, rfl, J, gr, up, sky, na, os, ba, w⟩
    have sky : L2.Sky B (X.env :: X.outer) a (L2N.Zn cv d) X.env.locals t.heap := by rw [← hs]; exact sky
    exact L2N.Sky.land L2N.Zn.steady fr hf sky fun h3 fl up3 => hh pins B sI _ a cv d σ2 H2 D ok ⟨J.ofTry ok, gr, up.trans up3, fl, na, os, ba⟩ w
  · cases f with
    | next => obtain ⟨_, _, J, q⟩ := q; exact wpAny_execs_nil ⟨_, _, J.ofTry ok, q⟩
    | brk => obtain ⟨_, _, J, q⟩ := q; exact ⟨_, _, J.ofTry ok, q⟩
    | cont => obtain ⟨_, _, J, q⟩ := q; exact ⟨_, _, J.ofTry ok, q⟩
    | ret u => obtain ⟨_, _, _, J, rv, q⟩ := q; exact ⟨_, _, _, J.ofTry ok, rv, q⟩
end
/-! the mirror: clauses in their order, each with the classes that it catches, its name's place and its suite -/
abbrev Clause := List Str × Nat × (Str → Option (List (Str × D)) → MS)
def mCls : List Clause → Str → Option (List (Str × D)) → Env → Hap → RS
  | [], c, fs, e, h => .er c fs e h
  | (cs, i, su) :: r, c, fs, e, h => if c ∈ cs then (su c fs (e.set i none) h).forget i else mCls r c fs e h
def mTryL (al : List Str) (l : List Clause) (b : MS) : MS := fun env h => match b env h with
  | .er c fs e h1 => if c ∈ al then mCls l c fs e h1 else .stuck
  | r => r
inductive Cls [Tbl] (X : Cx) (al : List Str) : List ExceptHandler → List Clause → Prop
  | nil : Cls X al [] []
  | skip {x : Str} {nm : Option Str} {os : List Str} {b₀ : Stmt} {suite : List Stmt} {np pos : Pos} {r : List ExceptHandler} {l : List Clause} (hg : Gl X x) (hd : (x == ("__debug__" : Str)) = false) (hc : Cat X.K X.mg x [] os) (ha : ∀ c ∈ al, c ∈ os) (hr : Cls X al r l) :
      Cls X al (.ExceptHandler (some (.Name x np)) nm (b₀ :: suite) pos :: r) l
  | as {x n : Str} {cs os : List Str} {i : Nat} {b₀ : Stmt} {suite : List Stmt} {np pos : Pos} {r : List ExceptHandler} {l : List Clause} {su : Str → Option (List (Str × D)) → MS} (hN : X.N.Nodup) (hi : X.N[i]? = some n) (hln : X.env.kindOf n = some .local) (hg : Gl X x) (hd : (x == ("__debug__" : Str)) = false) (hc : Cat X.K X.mg x cs os) (ha : ∀ c ∈ al, c ∈ cs ∨ c ∈ os)
      (hsu : ∀ c ∈ cs, ∀ (cv : Value) (fs : Option (List (Str × D))) (a : Addr) (oe : Obj) (d : Option Addr) (pn : List (Addr × Obj)), X.mg c = some cv → L2N.Zn cv d oe → (∃ vs, oe.data = .fields vs) → SPSs X a oe pn d i fs (b₀ :: suite) (su c fs)) (hr : Cls X al r l) :
      Cls X al (.ExceptHandler (some (.Name x np)) (some n) (b₀ :: suite) pos :: r) ((cs, i, su) :: l)
  | no {x : Str} {cs os : List Str} {i : Nat} {b₀ : Stmt} {suite : List Stmt} {np pos : Pos} {r : List ExceptHandler} {l : List Clause} {su : MS} (hg : Gl X x) (hd : (x == ("__debug__" : Str)) = false) (hc : Cat X.K X.mg x cs os) (ha : ∀ c ∈ al, c ∈ cs ∨ c ∈ os)
      (hsu : ∀ (a : Addr) (oe : Obj) (cv : Value) (d : Option Addr) (pn : List (Addr × Obj)), L2N.Zn cv d oe → (∃ vs, oe.data = .fields vs) → PSs (X.suite a ((a, oe) :: pn)) (b₀ :: suite) (tS X.K X.mg W0 su)) (hr : Cls X al r l) :
      Cls X al (.ExceptHandler (some (.Name x np)) none (b₀ :: suite) pos :: r) ((cs, i, fun _ _ => su) :: l)
/-- to know less of the names -/
theorem EnvR.less1 {K : PySem.W.Frag} {w : Wd} {σ : L2.St} {env : Env} (er : EnvR K w σ env) (i : Nat) : EnvR K w σ (env.set i none) := ⟨by rw [List.length_set]; exact er.len, fun j d' e => by
  by_cases q : i = j
  · subst q
    by_cases hl : i < env.length
    · rw [List.getElem?_set_self hl] at e
      cases e
    · rw [List.getElem?_eq_none (by rw [List.length_set]; omega)] at e
      cases e
  · rw [List.getElem?_set_ne q] at e
    exact er.get j d' e⟩
/-- what the clauses wish -/
def WL [Tbl] (X : Cx) (W : WX) (al : List Str) (l : List Clause) : Ends → WX := fun D cv d σ H => ∃ c fs w e h, c ∈ al ∧ X.mg c = some cv ∧ σ.length = X.N.length ∧ Ok X.K w H h ∧ EnvR X.K w σ e ∧ XR X.K w H d fs ∧ PostS X.K X.mg w H (mCls l c fs e h) D W
theorem Hands.imp {X : Cx} {hds : List ExceptHandler} {W W' : Ends → WX} (hh : Hands X hds W) (i : ∀ D cv d σ H, W' D cv d σ H → W D cv d σ H) : Hands X hds W' := fun pins B sI s a cv d σ H D ok A w => hh pins B sI s a cv d σ H D ok A (i _ _ _ _ _ w)
theorem hands_len {X : Cx} {hds : List ExceptHandler} {W : Ends → WX} (hh : Hands X hds fun D cv d σ H => σ.length = X.N.length ∧ W D cv d σ H) : Hands X hds W := fun pins B sI s a cv d σ H D ok A w => hh pins B sI s a cv d σ H D ok A ⟨A.iv.len, w⟩
theorem Cls.hands [Tbl] {X : Cx} {W : WX} {al : List Str} {hds : List ExceptHandler} {l : List Clause} (hs : X.stack = X.env :: X.outer) (hf : X.env.frame = some X.env.locals) (tk : L2N.Takes X W) (hl : Cls X al hds l) : Hands X hds (WL X W al l) := by
  induction hl with
  | nil =>
    refine (hands_nil hs hf tk).imp fun D cv d σ H ⟨c, fs, w, e, h, _, hm, _, ok, er, xr, p⟩ => ?_
    exact p cv d σ w H hm (Step.refl _ _) ok er xr
  | skip hg hd hc ha hr ih =>
    obtain ⟨C, hC, _, h2⟩ := hc.ex
    refine (hands_skip hf ⟨hg, hd, .inl hC⟩ ih).imp fun D cv d σ H z => ⟨?_, z⟩
    obtain ⟨c, fs, w, e, h, mc, hm, _⟩ := z
    exact h2 c (ha c mc) cv hm
  | @as x n cs os i b₀ suite np pos r l su hN hi hln hg hd hc ha hsu hr ih =>
    obtain ⟨C, hC, h1, h2⟩ := hc.ex
    have hil : i < X.N.length := (List.getElem?_eq_some_iff.mp hi).1
    refine (hands_as (ts := fun a cv d D σ H => σ.length = X.N.length → ∃ w env h c fs, c ∈ cs ∧ X.mg c = some cv ∧ Ok X.K w H h ∧ EnvR X.K w σ env ∧ σ[i]? = some (some (.ref a)) ∧ XR X.K w H d fs ∧ PostI X.K w H i a (su c fs env h) D) hf hN hi hln ⟨hg, hd, .inl hC⟩
      (fun a oe cv d pn hz hfl => ⟨fun pins s σ H D I z => ?_⟩) ih).imp fun D cv d σ H z => ?_
    · obtain ⟨w, env, hh, c, fs, mc, hm, ok, er, sl, xr, p⟩ := z I.len
      obtain ⟨t, ht, st⟩ := hsu c mc cv fs a oe d pn hm hz hfl
      exact ht.run pins s σ H D I (st w σ H env hh D ok er sl xr p)
    · obtain ⟨c, fs, w, e, h, mc, hm, len, ok, er, xr, p⟩ := id z
      unfold mCls at p
      by_cases q : c ∈ cs
      · rw [if_pos q] at p
        refine ⟨true, h1 c q cv hm, fun _ a ha _ => ?_, fun z => nomatch z⟩
        have sl : (σ.set i (some (.ref a)))[i]? = some (some (.ref a)) := List.getElem?_set_self (by rw [len]; exact hil)
        refine ⟨w, e.set i none, h, c, fs, q, hm, ok, er.unset i _, sl, xr, ?_⟩
        revert p
        cases su c fs (e.set i none) h with
        | nx e2 h2 => exact fun p t w2 H2 s2 ok2 er2 _ => p _ w2 H2 s2 ok2 (er2.unset i none)
        | bk e2 h2 => exact fun p t w2 H2 s2 ok2 er2 _ => p _ w2 H2 s2 ok2 (er2.unset i none)
        | ct e2 h2 => exact fun p t w2 H2 s2 ok2 er2 _ => p _ w2 H2 s2 ok2 (er2.unset i none)
        | rt e2 h2 => exact fun p => p
        | er c2 fs2 e2 h2 => exact fun p => p
        | stuck => exact fun p => p
      · rw [if_neg q] at p
        have mo : c ∈ os := (ha c mc).elim (fun z => absurd z q) id
        exact ⟨false, h2 c mo cv hm, fun z => Bool.noConfusion z, fun _ => ⟨c, fs, w, e, h, mc, hm, len, ok, er, xr, p⟩⟩
  | @no x cs os i b₀ suite np pos r l su hg hd hc ha hsu hr ih =>
    obtain ⟨C, hC, h1, h2⟩ := hc.ex
    refine (hands_no hf ⟨hg, hd, .inl hC⟩ hsu ih).imp fun D cv d σ H z => ?_
    obtain ⟨c, fs, w, e, h, mc, hm, len, ok, er, xr, p⟩ := id z
    unfold mCls at p
    by_cases q : c ∈ cs
    · rw [if_pos q] at p
      refine ⟨true, h1 c q cv hm, fun _ => ⟨w, e.set i none, h, ok, er.less1 i, ?_⟩, fun z => nomatch z⟩
      replace p : PostS X.K X.mg w H ((su (e.set i none) h).forget i) D W := p
      revert p
      cases su (e.set i none) h with
      | nx e2 h2 => exact fun p t w2 H2 s2 ok2 er2 => p _ w2 H2 s2 ok2 (er2.less1 i)
      | bk e2 h2 => exact fun p t w2 H2 s2 ok2 er2 => p _ w2 H2 s2 ok2 (er2.less1 i)
      | ct e2 h2 => exact fun p t w2 H2 s2 ok2 er2 => p _ w2 H2 s2 ok2 (er2.less1 i)
      | rt e2 h2 => exact fun p => p
      | er c2 fs2 e2 h2 => exact fun p => False.elim p
      | stuck => exact fun p => p
    · rw [if_neg q] at p
      have mo : c ∈ os := (ha c mc).elim (fun z => absurd z q) id
      exact ⟨false, h2 c mo cv hm, fun z => Bool.noConfusion z, fun _ => ⟨c, fs, w, e, h, mc, hm, len, ok, er, xr, p⟩⟩
theorem s_tryL [Tbl] {X : Cx} {W : WX} {al : List Str} {body : List Stmt} {h₀ : ExceptHandler} {hds : List ExceptHandler} {l : List Clause} {pos : Pos} {mb : MS} (hs : X.stack = X.env :: X.outer) (hf : X.env.frame = some X.env.locals) (tk : L2N.Takes X W)
    (hb : ∀ (W : WX) (pn : List (Addr × Obj)) (xe : Value → Shared → Prop), L2N.Takes (X.tr pn xe) W → PassesOwn (model X.prog X.w) X.A X.env xe → PSs (X.tr pn xe) body (tS X.K X.mg W mb)) (hl : Cls X al (h₀ :: hds) l) :
    PS X (.Try body (h₀ :: hds) [] [] pos) (tS X.K X.mg W (mTryL al l mb)) := by
  refine PS.imp (ps_hands (tb := fun W => tS X.K X.mg W mb) (W := fun D cv d σ H => σ.length = X.N.length → WL X W al l D cv d σ H) hs hf hb (fun pins B sI s a cv d σ H D ok A w => (hl.hands hs hf tk) pins B sI s a cv d σ H D ok A (w A.iv.len))) fun D σ H ⟨w, env, h, ok, er, p⟩ => ⟨w, env, h, ok, er, ?_⟩
  unfold mTryL at p
  revert p
  cases mb env h with
  | nx e1 h1 => exact fun p => p
  | bk e1 h1 => exact fun p => p
  | ct e1 h1 => exact fun p => p
  | rt e1 h1 => exact fun p => p
  | stuck => exact fun p => p
  | er c fs e1 hh1 =>
    intro p cv d t w2 H2 hm s1 ok1 er1 xr1 len
    dsimp only at p
    by_cases q : c ∈ al
    · rw [if_pos q] at p
      exact ⟨c, fs, w2, e1, hh1, q, hm, len, ok1, er1, xr1, p.step s1⟩
    · rw [if_neg q] at p
      exact p.elim
end Vi

set_option Elab.async false
set_option linter.all false
set_option autoImplicit false
set_option maxRecDepth 100000
set_option maxHeartbeats 2000000
namespace Vi
open PySem PySem.Spec PyProof.Rows L2
open scoped Classical
/-! ### the steps of a try with several clauses -/
section
variable {Q : Ps} {h : Hap} {env : Env}
theorem X.tryL {al : List Str} {l : List Clause} {b : MS} (s : SatSX (b env h) Q fun c fs e h1 => c ∈ al ∧ SatS (mCls l c fs e h1) Q) : SatS (mTryL al l b env h) Q := by
  unfold mTryL
  revert s
  cases b env h with
  | nx e h => exact fun s => s
  | rt e h => exact fun s => s
  | bk e h => exact fun s => s
  | ct e h => exact fun s => s
  | stuck => exact fun s => s
  | er c fs e h1 =>
    intro s
    obtain ⟨m, s⟩ := s
    show SatS (if _ then _ else _) _
    rw [if_pos m]
    exact s
theorem cls_hit {cs : List Str} {i : Nat} {su : Str → Option (List (Str × D)) → MS} {r : List Clause} {c : Str} {fs : Option (List (Str × D))} {e : Env} (m : c ∈ cs)
    (s : SatS (su c fs (e.set i none) h) ⟨fun e2 h2 => Q.n (e2.set i none) h2, Q.r, fun e2 h2 => Q.b (e2.set i none) h2, fun e2 h2 => Q.c (e2.set i none) h2⟩) : SatS (mCls ((cs, i, su) :: r) c fs e h) Q := by
  unfold mCls
  rw [if_pos m]
  revert s
  cases su c fs (e.set i none) h with
  | nx e h => exact fun s => s
  | rt e h => exact fun s => s
  | bk e h => exact fun s => s
  | ct e h => exact fun s => s
  | stuck => exact fun s => s.elim
  | er => exact fun s => s.elim
theorem cls_miss {cs : List Str} {i : Nat} {su : Str → Option (List (Str × D)) → MS} {r : List Clause} {c : Str} {fs : Option (List (Str × D))} {e : Env} (m : c ∉ cs) (s : SatS (mCls r c fs e h) Q) : SatS (mCls ((cs, i, su) :: r) c fs e h) Q := by
  unfold mCls
  rw [if_neg m]
  exact s
end
end Vi

set_option Elab.async false
set_option linter.all false
set_option autoImplicit false
set_option maxRecDepth 100000
set_option maxHeartbeats 2000000
namespace Vi
open PySem PySem.Spec PyProof.Rows L2
open scoped Classical
noncomputable section
/-! ### a dict that is walked, wherever it stands -/
def gVr (i : Nat) : Env → Hap → Option Nat := fun env _ => match env[i]? with
  | some (some (.ref j)) => some j
  | _ => none
def gFl (i : Nat) (f : Str) : Env → Hap → Option Nat := fun env h => match env[i]? with
  | some (some (.ref j)) => match h[j]? with
    | some (.ins _ fs) => match fs.lookup f with
      | some (.ref k) => some k
      | _ => none
    | _ => none
  | _ => none
def mLokG (g : Env → Hap → Option Nat) (m : ME) : ME := fun env h => match g env h with
  | some j => match h[j]? with
    | some (.dct kds) => match m env (h.set j (.lok kds)) with
      | .ok d h2 => if h2[j]? = some (.lok kds) then .ok d (h2.set j (.dct kds)) else .stuck
      | _ => .stuck
    | _ => .stuck
  | none => .stuck
/-- a statement in which it is walked -/
def mLokS (g : Env → Hap → Option Nat) (m : MS) : MS := fun env h => match g env h with
  | some j => match h[j]? with
    | some (.dct kds) => match m env (h.set j (.lok kds)) with
      | .nx e h2 => if h2[j]? = some (.lok kds) then .nx e (h2.set j (.dct kds)) else .stuck
      | .bk e h2 => if h2[j]? = some (.lok kds) then .bk e (h2.set j (.dct kds)) else .stuck
      | .ct e h2 => if h2[j]? = some (.lok kds) then .ct e (h2.set j (.dct kds)) else .stuck
      | .rt d h2 => if h2[j]? = some (.lok kds) then .rt d (h2.set j (.dct kds)) else .stuck
      | _ => .stuck
    | _ => .stuck
  | none => .stuck
theorem EnvR.less {K : PySem.W.Frag} {w : Wd} {σ : L2.St} {env : Env} {a : Addr} {od : Obj} {vs : List (Key × V)} (fa : w.F a = some (.frz od (.dK vs))) (er : EnvR K w σ env) : EnvR K ⟨delF w.F a, w.ρ⟩ σ env := ⟨er.len, fun i d e => by
  obtain ⟨v, z1, z2⟩ := er.get i d e
  exact ⟨v, z1, z2.less fa⟩⟩
/-- what a lock needs, and what it gives back -/
theorem lock_of [Tbl] {K : PySem.W.Frag} {w : Wd} {H : Hp} {h : Hap} {j : Nat} {kds : List (Key × D)} (ok : Ok K w H h) (hj : h[j]? = some (.dct kds)) : ∃ a vs, H a = some (.dK vs) ∧ ∀ od, ∃ w1, Ok K w1 (upd H a (.frz od (.dK vs))) (h.set j (.lok kds)) ∧ (∀ σ env, EnvR K w σ env → EnvR K w1 σ env) ∧
    ∀ w' H' h2, Step w1 (upd H a (.frz od (.dK vs))) w' H' → Ok K w' H' h2 → H' a = some (.frz od (.dK vs)) ∧ w'.F a = some (.frz od (.dK vs)) ∧ Step w H ⟨delF w'.F a, w'.ρ⟩ (upd H' a (.dK vs)) ∧ Ok K ⟨delF w'.F a, w'.ρ⟩ (upd H' a (.dK vs)) (h2.set j (.dct kds)) := by
  have hl : j < w.ρ.length := by rw [ok.len]; exact (List.getElem?_eq_some_iff.mp hj).1
  have hr : w.ρ[j]? = some w.ρ[j] := List.getElem?_eq_getElem hl
  generalize w.ρ[j] = a at hr
  obtain ⟨a', j', vs, e1, e2, _, _, ha, r⟩ := getD_ok (ds := kds) ok (VR.ref hr) (by unfold getD; dsimp only; rw [hj])
  cases e1
  have f0 : w.F a = none := (ok.cel j a _ hr hj).1
  have ar : a ∈ w.ρ := List.mem_of_getElem? hr
  refine ⟨a, vs, ha, fun od => ?_⟩
  obtain ⟨ok1, fm⟩ := ok.lock (od := od) hr hj ha r
  refine ⟨_, ok1, fun σ env er => ⟨er.len, fun i d e => ?_⟩, fun w' H' h2 st ok' => ?_⟩
  · obtain ⟨v, z1, z2⟩ := er.get i d e
    exact ⟨v, z1, VR.mono' (w := w) (w' := ⟨upd w.F a (.frz od (.dK vs)), w.ρ⟩) fm (fun _ _ e => e) z2⟩
  · have fa : w'.F a = some (.frz od (.dK vs)) := st.f _ _ upd_same
    have hr' : w'.ρ[j]? = some a := st.ix hr
    have r' : KVR K w' vs kds := by
      refine kvr_of r.fst ?_
      refine VRs.mono' (fun b u e => st.f b u (fm b u e)) (fun i b e => ?_) r.snd
      exact st.ix e
    exact ⟨ok'.sub _ _ fa, fa, lock_step f0 ar ha st, ok'.unlock hr' fa r'⟩
section
variable {X : Cx} {W : WX} {g : Env → Hap → Option Nat}
theorem e_lokG [Tbl] {e : Expr} {m : ME} (he : PE X e (tE X.K X.mg W m)) : PE X e (tE X.K X.mg W (mLokG g m)) := PE.imp (pe_lock he) fun σ H Q ⟨w, env, h, ok, er, p⟩ => by
  unfold mLokG at p
  split at p
  · next j ej =>
    split at p
    · next kds hj =>
      obtain ⟨a, vs, ha, L⟩ := lock_of ok hj
      refine ⟨a, .dK vs, ha, trivial, fun od => ?_⟩
      obtain ⟨w1, ok1, ee, back⟩ := L od
      refine ⟨w1, env, _, ok1, ee _ _ er, ?_⟩
      revert p
      cases m env (h.set j (.lok kds)) with
      | ok d h2 =>
        intro p v w' H' st ok' vr
        have p : Post X.K X.mg (VR X.K) w H (if h2[j]? = some (.lok kds) then .ok d (h2.set j (.dct kds)) else .stuck) Q fun c d H' => W c d σ H' := p
        by_cases hz : h2[j]? = some (.lok kds)
        · rw [if_pos hz] at p
          obtain ⟨b1, b2, b3, b4⟩ := back w' H' h2 st ok'
          exact ⟨b1, p v _ _ b3 b4 (vr.less b2)⟩
        · rw [if_neg hz] at p
          exact p.elim
      | err c fs h2 => exact fun p => p.elim
      | stuck => exact fun p => p.elim
    · exact p.elim
  · exact p.elim
theorem s_lokG [Tbl] {st : Stmt} {m : MS} (hs : PS X st (tS X.K X.mg W m)) : PS X st (tS X.K X.mg W (mLokS g m)) := PS.imp (ps_lock hs) fun D σ H ⟨w, env, h, ok, er, p⟩ => by
  unfold mLokS at p
  split at p
  · next j ej =>
    split at p
    · next kds hj =>
      obtain ⟨a, vs, ha, L⟩ := lock_of ok hj
      refine ⟨a, .dK vs, ha, trivial, fun od => ?_⟩
      obtain ⟨w1, ok1, ee, back⟩ := L od
      refine ⟨w1, env, _, ok1, ee _ _ er, ?_⟩
      revert p
      cases m env (h.set j (.lok kds)) with
      | nx e h2 =>
        intro p τ w' H' st ok' er'
        have p : PostS X.K X.mg w H (if h2[j]? = some (.lok kds) then .nx e (h2.set j (.dct kds)) else .stuck) D W := p
        by_cases hz : h2[j]? = some (.lok kds)
        · rw [if_pos hz] at p
          obtain ⟨b1, b2, b3, b4⟩ := back w' H' h2 st ok'
          exact ⟨b1, p τ _ _ b3 b4 (er'.less b2)⟩
        · rw [if_neg hz] at p
          exact p.elim
      | bk e h2 =>
        intro p τ w' H' st ok' er'
        have p : PostS X.K X.mg w H (if h2[j]? = some (.lok kds) then .bk e (h2.set j (.dct kds)) else .stuck) D W := p
        by_cases hz : h2[j]? = some (.lok kds)
        · rw [if_pos hz] at p
          obtain ⟨b1, b2, b3, b4⟩ := back w' H' h2 st ok'
          exact ⟨b1, p τ _ _ b3 b4 (er'.less b2)⟩
        · rw [if_neg hz] at p
          exact p.elim
      | ct e h2 =>
        intro p τ w' H' st ok' er'
        have p : PostS X.K X.mg w H (if h2[j]? = some (.lok kds) then .ct e (h2.set j (.dct kds)) else .stuck) D W := p
        by_cases hz : h2[j]? = some (.lok kds)
        · rw [if_pos hz] at p
          obtain ⟨b1, b2, b3, b4⟩ := back w' H' h2 st ok'
          exact ⟨b1, p τ _ _ b3 b4 (er'.less b2)⟩
        · rw [if_neg hz] at p
          exact p.elim
      | rt d h2 =>
        intro p v w' H' st ok' vr
        have p : PostS X.K X.mg w H (if h2[j]? = some (.lok kds) then .rt d (h2.set j (.dct kds)) else .stuck) D W := p
        by_cases hz : h2[j]? = some (.lok kds)
        · rw [if_pos hz] at p
          obtain ⟨b1, b2, b3, b4⟩ := back w' H' h2 st ok'
          exact ⟨b1, p v _ _ b3 b4 (vr.less b2)⟩
        · rw [if_neg hz] at p
          exact p.elim
      | er c fs e h2 => exact fun p => p.elim
      | stuck => exact fun p => p.elim
    · exact p.elim
  · exact p.elim
/-! its keys, values and items as what is walked -/
def mIW (f : Key × D → D) (o : ME) : MI := fun env h => (o env h).bind fun d h1 => match d with
  | .ref j => match h1[j]? with
    | some (.lok kds) => .ok (kds.map f, fun h => h[j]? = some (.lok kds)) h1
    | _ => .stuck
  | _ => .stuck
abbrev mIKy (o : ME) : MI := mIW (fun kv => keyV kv.1) o
abbrev mIVl (o : ME) : MI := mIW Prod.snd o
abbrev mIIt (o : ME) : MI := mIW itD o
/-- a walk over a locked dict -/
theorem walk_of [Tbl] {m : ME} {f : Key × D → D} {J : Addr → Obj → List (Key × V) → It}
    (go : ∀ a od vs i H, H a = some (.frz od (.dK vs)) → i < vs.length → (J a od vs).go i H) (stop : ∀ a od vs i H, H a = some (.frz od (.dK vs)) → vs.length ≤ i → (J a od vs).stop i H)
    (yld : ∀ a od vs i y (w : Wd) (H H' : Hp) (h : Hap), Ok X.K w H h → (J a od vs).yld i H y H' → ∃ k v, vs[i]? = some (k, v) ∧ ∀ d, VR X.K w v d → ∃ w', Step w H w' H' ∧ Ok X.K w' H' h ∧ VR X.K w' y (f (k, d)))
    {σ : L2.St} {H : Hp} {R : It → Hp → Prop} (p : tI X.K X.mg W (mIW f m) σ H R) : tE X.K X.mg W m σ H fun x H1 => ∃ d o kvs, x = .ref d ∧ H1 d = some (.frz o (.dK kvs)) ∧ R (J d o kvs) H1 := by
  obtain ⟨w, env, h, ok, er, p⟩ := p
  refine ⟨w, env, h, ok, er, Post.bind p fun x da w1 H1 h1 s1 ok1 v1 p1 => ?_⟩
  split at p1
  · next j =>
    split at p1
    · next kds hj =>
      cases v1 with
      | ref hr =>
        next a =>
        obtain ⟨od, vs, fa, e2, e3⟩ := ok1.cel j a _ hr hj
        refine ⟨a, od, vs, rfl, ok1.sub _ _ fa, ?_⟩
        have len : ∀ {us : List (Key × V)}, us.map Prod.fst = kds.map Prod.fst → us.length = kds.length := fun e => by simpa using congrArg List.length e
        refine p1 (J a od vs) w1 H1 (Step.refl _ _) ok1 ⟨fun w => w.F a = some (.frz od (.dK vs)) ∧ w.ρ[j]? = some a, ⟨fa, hr⟩, ?_⟩
        refine ⟨fun w H w' H' s r => ⟨s.f _ _ r.1, s.ix r.2⟩, fun w H h i ok r g hi => go a od vs i H (ok.sub _ _ r.1) (by rw [List.length_map] at hi; rw [len e2]; exact hi), fun w H h ok r g => stop a od vs _ H (ok.sub _ _ r.1) (by rw [List.length_map, len e2]; exact Nat.le_refl _), fun w H h i y H' ok r g hi q => ?_⟩
        obtain ⟨od', vs', fa', e2', e3'⟩ := ok.cel j a _ r.2 g
        have same : od' = od ∧ vs' = vs := by
          have := r.1.symm.trans fa'
          injection this with this
          injection this with h1 h2
          injection h2 with h2
          exact ⟨h1.symm, h2.symm⟩
        obtain ⟨rfl, rfl⟩ := same
        obtain ⟨k, v, e4, nx⟩ := yld a od' vs' i y w H H' h ok q
        have e5 : (vs'.map Prod.snd)[i]? = some v := by rw [List.getElem?_map, e4]; rfl
        obtain ⟨d, e6, e7⟩ := e3'.get e5
        obtain ⟨w', st, ok', vr⟩ := nx d e7
        refine ⟨w', st, ok', f (k, d), ?_, vr⟩
        have e8 : (kds.map Prod.fst)[i]? = some k := by rw [← e2', List.getElem?_map, e4]; rfl
        rw [List.getElem?_map] at e6 e8 ⊢
        obtain ⟨kv, z1, z2⟩ := Option.map_eq_some_iff.mp e8
        rw [z1] at e6 ⊢
        have z3 : kv.2 = d := by simpa using e6
        rw [Option.map_some, ← z2, ← z3]
    · exact p1.elim
  · exact p1.elim
theorem i_keysE [Tbl] {tg e : Expr} {m : ME} (he : PE X e (tE X.K X.mg W m)) : PI X tg e (tI X.K X.mg W (mIKy m)) := PI.imp (pi_keys he) fun σ H R p => by
  obtain ⟨w, env, h, ok, er, q⟩ := walk_of (J := Itk) (fun a od vs i H e l => ⟨e, l⟩) (fun a od vs i H e l => ⟨e, l⟩) (fun a od vs i y w H H' h ok q => by
    obtain ⟨rfl, k, v, e4, rfl⟩ := q
    exact ⟨k, v, e4, fun d _ => ⟨w, Step.refl _ _, ok, vr_keyV k⟩⟩) p
  refine ⟨w, env, h, ok, er, ?_⟩
  revert q
  cases m env h with
  | ok a h1 =>
    intro q v w' H' s ok' vr
    obtain ⟨d, o, kvs, e1, e2, e3⟩ := q v w' H' s ok' vr
    exact ⟨d, o, e1, .inl ⟨kvs, e2, e3⟩⟩
  | err => exact fun q => q
  | stuck => exact fun q => q
theorem i_values [Tbl] {tg e : Expr} {m : ME} {apos cpos : Pos} (he : PE X e (tE X.K X.mg W m)) (hbase : attributeBase e "values" X.env (eval e X.env) = eval e X.env := by rfl) (hline : (apos.endLine == cpos.line) = true := by rfl) : PI X tg (.Call (.Attribute e "values" apos) [] [] cpos) (tI X.K X.mg W (mIVl m)) := PI.imp (pi_values he hbase hline) fun σ H R p =>
  walk_of (J := Itd) (fun a od vs i H e l => ⟨e, l⟩) (fun a od vs i H e l => ⟨e, l⟩) (fun a od vs i y w H H' h ok q => by
    obtain ⟨rfl, k, e4⟩ := q
    exact ⟨k, y, e4, fun d r => ⟨w, Step.refl _ _, ok, r⟩⟩) p
theorem i_items [Tbl] {elts : List Expr} {kk : Nat} {tpos : Pos} {e : Expr} {m : ME} {apos cpos : Pos} (he : PE X e (tE X.K X.mg W m)) (hbase : attributeBase e "items" X.env (eval e X.env) = eval e X.env := by rfl) (hline : (apos.endLine == cpos.line) = true := by rfl) : PI X (.Tuple elts kk tpos) (.Call (.Attribute e "items" apos) [] [] cpos) (tI X.K X.mg W (mIIt m)) := PI.imp (pi_items he hbase hline) fun σ H R p =>
  walk_of (J := Iti) (fun a od vs i H e l => ⟨e, l⟩) (fun a od vs i H e l => ⟨e, l⟩) (fun a od vs i y w H H' h ok q => by
    obtain ⟨T, k, v, e4, rfl, hT, rfl⟩ := q
    exact ⟨k, v, e4, fun d r => ⟨_, (ok.alloc hT).2, (ok.alloc hT).1, vr_tup ok hT (.cons (vr_keyV k) (.cons r .nil))⟩⟩) p
end
/-! ### o.f += n, max(i, j) -/
theorem augF_core [Tbl] {X : Cx} {W : WX} {o e : Expr} {mo me : ME} {c f : Str} {op : Operator} {rd : V → V → Hp → VK → Prop} {g : D → D → Hap → Option D} {F : Int → Int → Int} {tpos pos : Pos} (T : HasA X.K c f) (ho : PE X o (tE X.K X.mg W mo)) (he : PE X e (tE X.K X.mg W me)) (hop : InOp X op rd)
    (hg : ∀ a b h d, g a b h = some d → ∃ i j, a = .int i ∧ b = .int j ∧ d = .int (F i j)) (hrd : ∀ i j H (Q : VK), Q (.int (F i j)) H → rd (.int i) (.int j) H Q) : PS X (.AugAssign (.Attribute o f tpos) op e pos) (tS X.K X.mg W (mAugF c f g mo me)) :=
  PS.imp (ps_fldaug ho he hop) fun D σ H ⟨w, env, h, ok, er, p⟩ => ⟨w, env, h, ok, er, PostS.bind er p fun x od w1 H1 h1 s1 ok1 v1 p1 => by
    split at p1
    · next v0 e1 =>
      unfold fldD at e1
      split at e1
      · next c' fds e2 =>
        split at e1
        · next hc =>
          subst hc
          obtain ⟨a, i, C, dx, fs, rfl, rfl, h1', h2', h3', h4', r⟩ := insOf_ok ok1 v1 e2
          obtain ⟨k1, k2⟩ := T C h4'
          rcases r.look f with ⟨z1, z2⟩ | ⟨v, d2, z1, z2, z3⟩
          · rw [e1] at z2; cases z2
          · rw [e1] at z2
            cases z2
            refine ⟨a, C, dx, fs, v, rfl, h3', k1, k2, z1, w1, env, h1, ok1, er.mono s1, PostS.bind (er.mono s1) p1 fun y d w2 H2 h2 s2 ok2 v2 p2 => ?_⟩
            simp only [] at p2
            split at p2
            · next c2 fs2 z q1 q2 =>
              split at p2
              · next hl =>
                obtain ⟨rfl, hl⟩ := hl
                obtain ⟨n, m, rfl, rfl, rfl⟩ := hg _ _ _ _ q2
                cases z3
                cases v2
                obtain ⟨b, i2, C2, dx2, fv, e3, e4, m1, m2, m3, m4, r2⟩ := insOf_ok (c := c2) (fds := fs2) ok2 (v1.mono s2) (by unfold insOf; dsimp only; rw [q1])
                cases e3
                cases e4
                have := h4'.symm.trans m4
                cases this
                have z := ok2.iwrite (dx := dx2) (by rw [m2]; exact fun _ z => nomatch z) m1 m4 (r2.put (VR.int (F n m)) f)
                exact hrd n m _ _ ⟨dx2, _, m3, by rw [r2.len]; exact hl, p2 σ w2 _ z.2 z.1 ((er.mono s1).mono s2)⟩
              · exact False.elim p2
            · exact False.elim p2
        · cases e1
      · cases e1
    · exact p1.elim⟩
theorem s_augF [Tbl] {X : Cx} {W : WX} {o e : Expr} {mo me : ME} {c f : Str} {tpos pos : Pos} (T : HasA X.K c f) (ho : PE X o (tE X.K X.mg W mo)) (he : PE X e (tE X.K X.mg W me)) : PS X (.AugAssign (.Attribute o f tpos) .Add e pos) (tS X.K X.mg W (mAugF c f dAddI mo me)) :=
  augF_core (F := fun i j => i + j) T ho he in_add (fun a b h d e => by
    unfold dAddI at e
    split at e <;> cases e
    exact ⟨_, _, rfl, rfl, rfl⟩) fun i j H Q q => ⟨i, j, rfl, rfl, q⟩
theorem s_augFS [Tbl] {X : Cx} {W : WX} {o e : Expr} {mo me : ME} {c f : Str} {tpos pos : Pos} (T : HasA X.K c f) (ho : PE X o (tE X.K X.mg W mo)) (he : PE X e (tE X.K X.mg W me)) : PS X (.AugAssign (.Attribute o f tpos) .Sub e pos) (tS X.K X.mg W (mAugF c f dSub mo me)) :=
  augF_core (F := fun i j => i - j) T ho he in_sub (fun a b h d e => by
    unfold dSub at e
    split at e <;> cases e
    exact ⟨_, _, rfl, rfl, rfl⟩) fun i j H Q q => ⟨i, j, rfl, rfl, q⟩
def dMax : List D → Hap → Option D := fun ds _ => match ds with
  | [.int i, .int j] => some (.int (if j > i then j else i))
  | _ => none
theorem s_max [Tbl] {K : PySem.W.Frag} : CallS K (fun xs H Q => ∃ i j, xs = [.int i, .int j] ∧ Q (.int (if j > i then j else i)) H) dMax := by
  intro w H h xs ds d Q ok vr e q
  unfold dMax at e
  split at e
  · obtain ⟨x, y, rfl, r1, r2⟩ : ∃ x y, xs = [x, y] ∧ VR K w x _ ∧ VR K w y _ := by
      cases vr with
      | cons a b =>
        cases b with
        | cons b c => cases c; exact ⟨_, _, rfl, a, b⟩
    cases r1
    cases r2
    cases e
    exact ⟨_, _, rfl, q _ _ _ (Step.refl _ _) ok (.int _)⟩
  · cases e
theorem bl_max : bootBuiltins "max" = some (.builtin "max") := by decide +kernel
end
end Vi

set_option Elab.async false
set_option linter.all false
set_option autoImplicit false
set_option maxRecDepth 100000
set_option maxHeartbeats 2000000
namespace Vi
open PySem PySem.Spec PyProof.Rows L2
open scoped Classical
noncomputable section
/-! ### min(i, j), text.index(text) -/
def dMin : List D → Hap → Option D := fun ds _ => match ds with
  | [.int i, .int j] => some (.int (if j < i then j else i))
  | _ => none
theorem s_min [Tbl] {K : PySem.W.Frag} : CallS K (fun xs H Q => ∃ i j, xs = [.int i, .int j] ∧ Q (.int (if j < i then j else i)) H) dMin := by
  intro w H h xs ds d Q ok vr e q
  unfold dMin at e
  split at e
  · obtain ⟨x, y, rfl, r1, r2⟩ : ∃ x y, xs = [x, y] ∧ VR K w x _ ∧ VR K w y _ := by
      cases vr with
      | cons a b =>
        cases b with
        | cons b c => cases c; exact ⟨_, _, rfl, a, b⟩
    cases r1
    cases r2
    cases e
    exact ⟨_, _, rfl, q _ _ _ (Step.refl _ _) ok (.int _)⟩
  · cases e
theorem bl_min : bootBuiltins "min" = some (.builtin "min") := by decide +kernel
def dSIx : D → List D → Hap → Option D := fun a ds _ => match a, ds with
  | .str a, [.str b] => match Builtin.Str.occurrences a b 0 a.length 1 with
    | i :: _ => some (.int (i : Nat))
    | [] => none
  | _, _ => none
theorem s_sindex [Tbl] {K : PySem.W.Frag} : PMetS K (fun x xs H Q => ∃ a b i rest, x = .str a ∧ xs = [.str b] ∧ Builtin.Str.occurrences a b 0 a.length 1 = i :: rest ∧ Q (.int (i : Nat)) H) dSIx := by
  intro w H h x xs a ds d Q ok r1 r2 e q
  unfold dSIx at e
  split at e
  · split at e
    · next i rest ho =>
      cases e
      obtain ⟨y, rfl, r3⟩ := vrs1 r2
      cases r1
      cases r3
      exact ⟨_, _, i, rest, rfl, rfl, ho, q _ _ _ (Step.refl _ _) ok (.int _)⟩
    · cases e
  · cases e
/-! ### list.remove(int), the int in the list -/
def intsOf : List D → Option (List Int)
  | [] => some []
  | .int n :: r => (intsOf r).map (n :: ·)
  | _ => none
theorem intsOf_ok : ∀ {xs : List D} {ns : List Int}, intsOf xs = some ns → xs = ns.map .int
  | [], ns, e => by cases e; rfl
  | .int n :: r, ns, e => by
    obtain ⟨ms, e1, rfl⟩ := Option.map_eq_some_iff.mp (show (intsOf r).map (n :: ·) = some ns from e)
    rw [intsOf_ok e1]
    rfl
theorem vrs_ints {K : PySem.W.Frag} {w : Wd} : ∀ {vs : List V} {ns : List Int}, VRs K w vs (ns.map .int) → vs = ns.map V.int
  | _, [], .nil => rfl
  | _, n :: ns, .cons a b => by
    cases a
    rw [vrs_ints b]
    rfl
theorem vrs_of_ints {K : PySem.W.Frag} {w : Wd} : ∀ ns : List Int, VRs K w (ns.map V.int) (ns.map .int)
  | [] => .nil
  | n :: ns => .cons (.int n) (vrs_of_ints ns)
def gRem : D → List D → Hap → Rs D := fun a ds h => match a, ds with
  | .ref i, [.int k] => match h[i]? with
    | some (.lst xs) => match intsOf xs with
      | some ns => if k ∈ ns then .ok .non (h.set i (.lst ((ns.erase k).map .int))) else .stuck
      | none => .stuck
    | _ => .stuck
  | _, _ => .stuck
theorem e_rem [Tbl] {X : Cx} {W : WX} {o e : Expr} {mo me : ME} {apos cpos : Pos} (hc : X.calm = true) (ho : PE X o (tE X.K X.mg W mo)) (he : PE X e (tE X.K X.mg W me)) (hbase : attributeBase o "remove" X.env (eval o X.env) = eval o X.env := by rfl)
    (hfew : ((backTo cpos (starEach [e] X.env)).all (fun x => !x.1) && (backToKw cpos (keywordEach [] X.env)).all (fun x => x.1.isSome)
      && decide (([e] : List Expr).length + ([] : List Keyword).length + (if ([] : List Keyword).isEmpty then 0 else 1) < 30)) = true := by rfl)
    (hline : (apos.endLine == cpos.line) = true := by rfl) (hs : starEach [e] X.env = (false, eval e X.env) :: starEach [] X.env := by rfl) (hplain : (backTo cpos (starEach [] X.env)).any (·.1) = false := by rfl) :
    PE X (.Call (.Attribute o "remove" apos) [e] [] cpos) (tE X.K X.mg W (mMet "list" gRem mo (mCons me mNil))) := PE.imp (pe_remX hc takes_none5 ho he hbase hfew hline hs hplain) fun σ H Q ⟨w, env, h, ok, er, p⟩ => ⟨w, env, h, ok, er, Post.bind p fun x da w1 H1 h1 s1 ok1 v1 p1 => by
  by_cases c : isT "list" da h1 = true
  · rw [if_pos c] at p1
    refine ⟨isT_ok ok1 v1 c, w1, env, h1, ok1, er.mono s1, ?_⟩
    unfold mCons at p1
    rw [bind2] at p1
    refine Post.bind p1 fun y dk w2 H2 h2 s2 ok2 v2 p2 => ?_
    have p3 : Post X.K X.mg (VR X.K) w2 H2 (gRem da [dk] h2) Q _ := p2
    unfold gRem at p3
    split at p3
    · next i k e9 =>
      cases e9
      split at p3
      · next xs e1 =>
        split at p3
        · next ns e2 =>
          split at p3
          · next hk =>
            have e3 := intsOf_ok e2
            subst e3
            cases v2
            cases v1 with
            | ref hr =>
              next a =>
              have hr2 := s2.ix hr
              obtain ⟨_, ob, e4, e5⟩ := ok2.cel i a _ hr2 e1
              cases ob <;> simp [CRel] at e5
              next vs =>
              have ev := vrs_ints e5
              subst ev
              have q := ok2.write (hn := by rw [e1]; exact fun _ z => nomatch z) (o := .lst ((ns.erase k).map V.int)) (c := .lst ((ns.erase k).map .int)) hr2 (vrs_of_ints _)
              exact ⟨a, ns, k, rfl, rfl, e4, fun _ => p3 _ _ _ q.2 q.1 .non, fun z => absurd hk z⟩
          · exact p3.elim
        · exact p3.elim
      · exact p3.elim
    · exact p3.elim
  · rw [if_neg c] at p1
    exact p1.elim⟩
/-! ### list.count(int), list.index(text) -/
def dCntI : D → List D → Hap → Option D := fun a ds h => match ds with
  | [.int k] => (getL a h).bind fun xs => (intsOf xs).map fun ns => .int (ns.count k : Nat)
  | _ => none
theorem s_cntI [Tbl] {K : PySem.W.Frag} : PMetS K (rCntI K) dCntI := by
  intro w H h x xs a ds d Q ok r1 r2 e q
  unfold dCntI at e
  split at e
  · obtain ⟨ys, e1, e2⟩ := Option.bind_eq_some_iff.mp e
    obtain ⟨ns, e3, rfl⟩ := Option.map_eq_some_iff.mp e2
    obtain ⟨p, vs, rfl, sq, r⟩ := getL_ok ok r1 e1
    obtain ⟨y, rfl, r3⟩ := vrs1 r2
    cases r3
    have := intsOf_ok e3
    subst this
    have := vrs_ints r
    subst this
    exact ⟨p, ns, _, rfl, rfl, sq, q _ _ _ (Step.refl _ _) ok (.int _)⟩
  · cases e
def dLIx : D → List D → Hap → Option D := fun a ds h => match ds with
  | [.str z] => (getL a h).bind fun xs => (strsOf xs).bind fun ys => (ys.findIdx? fun y => decide (y = z)).map fun j => .int (j : Nat)
  | _ => none
theorem s_lix [Tbl] {K : PySem.W.Frag} : PMetS K (rIndex K) dLIx := by
  intro w H h x xs a ds d Q ok r1 r2 e q
  unfold dLIx at e
  split at e
  · next z =>
    obtain ⟨us, e1, e2⟩ := Option.bind_eq_some_iff.mp e
    obtain ⟨ys, e3, e4⟩ := Option.bind_eq_some_iff.mp e2
    obtain ⟨j, e5, rfl⟩ := Option.map_eq_some_iff.mp e4
    obtain ⟨p, vs, rfl, sq, r⟩ := getL_ok ok r1 e1
    obtain ⟨y, rfl, r3⟩ := vrs1 r2
    cases r3
    have := strsOf_is e3
    subst this
    have := VRs.strs r
    subst this
    obtain ⟨hj, h1, h2⟩ := List.findIdx?_eq_some_iff_getElem.mp e5
    refine ⟨p, ys.map V.str, .str z, j, .str ys[j], rfl, rfl, sq, rfl, ?_, ?_, ?_, fun m z' hm ez => ?_, q _ _ _ (Step.refl _ _) ok (.int _)⟩
    · rw [List.all_map]
      exact List.all_eq_true.mpr fun _ _ => rfl
    · rw [List.getElem?_map, List.getElem?_eq_getElem hj]
      rfl
    · show (ys[j] == z) = true
      rw [beq_iff_eq]
      exact of_decide_eq_true h1
    · have hml : m < ys.length := by omega
      rw [List.getElem?_map, List.getElem?_eq_getElem hml] at ez
      cases ez
      show (ys[m] == z) = false
      have := h2 m hm
      rw [beq_eq_false_iff_ne]
      exact fun w => this (decide_eq_true w)
  · cases e
/-! ### more of suites: a[b], int(..) and its like -/
section
variable {X : Cx} {a : Addr} {oe : Obj} {pn : List (Addr × Obj)} {d : Option Addr} {i : Nat} {fs : Option (List (Str × D))}
theorem sp_ix [Tbl] {e f : Expr} {m m' : ME} {pos : Pos} (h : SPE X a oe pn d i fs e m) (h' : SPE X a oe pn d i fs f m') (hs : PlainIx f) : SPE X a oe pn d i fs (.Subscript e f pos) (mBin dIx m m') := by
  obtain ⟨t, h, s⟩ := h
  obtain ⟨t', h', s'⟩ := h'
  refine ⟨_, pe_ix (X := X.suite a ((a, oe) :: pn)) ix_seq h h' hs, fun w σ H env hh Q ok er sl xr p => s w σ H env hh _ ok er sl xr (Post.bind p fun x da w1 H1 h1 s1 ok1 v1 p1 => s' w1 σ H1 env h1 _ ok1 (er.mono s1) sl (xr.mono s1) (Post.bind p1 fun y db w2 H2 h2 s2 ok2 v2 p2 => ?_))⟩
  obtain ⟨z, e, q⟩ := ofO_post p2
  exact s_ix w2 H2 h2 x y da db z Q ok2 (v1.mono s2) v2 e q
theorem sp_cty [Tbl] {id : String} {r : List V → Hp → VK → Prop} {g : List D → Hap → Option D} {x : Str} {e : Expr} {es : List Expr} {m : MA} {p pos : Pos} (hc : CallR (X.suite a ((a, oe) :: pn)) (.type id) r) (s : CallS X.K r g) (hg : Gl (X.suite a ((a, oe) :: pn)) x) (hm : X.mg x = none) (hv : bootBuiltins x = some (.type id)) (ha : SPA X a oe pn d i fs (e :: es) m) (hn : x ≠ "__name__" := by decide) (hdb : (x == ("__debug__" : Str)) = false := by decide)
    (he : starEach (e :: es) (X.suite a ((a, oe) :: pn)).env = (false, eval e (X.suite a ((a, oe) :: pn)).env) :: starEach es (X.suite a ((a, oe) :: pn)).env := by rfl) (hpl : (backTo pos (starEach es (X.suite a ((a, oe) :: pn)).env)).any (·.1) = false := by rfl) : SPE X a oe pn d i fs (.Call (.Name x p) (e :: es) [] pos) (mCB g m) := by
  obtain ⟨t, ha, s'⟩ := ha
  refine ⟨_, pe_callTy (X := X.suite a ((a, oe) :: pn)) hc hg hm hv ha hn hdb he hpl, fun w σ H env hh Q ok er sl xr p => s' w σ H env hh _ ok er sl xr (Post.bind p fun xs ds w1 H1 h1 s1 ok1 v1 p1 => ?_)⟩
  obtain ⟨z, e, q⟩ := ofO_post p1
  exact s w1 H1 h1 xs ds z Q ok1 v1 e q
end
/-! ### y in d where y may be None -/
def dDInN : D → D → Hap → Option D := fun b a h => match getD a h, b with
  | some _, .non => some (.bl false)
  | _, _ => dDIn b a h
def rDInN : R2 := fun y x H Q => rDIn y x H Q ∨ ∃ a kvs, x = .ref a ∧ y = .non ∧ Rd H a (.dK kvs) ∧ Q (.bl false) H
theorem op_dinN {X : Cx} (hu : X.A.units + 64 < cLine) : OpR X (compareOp .In) rDInN := by
  intro pins s σ H x y v u Q I rx ry h
  rcases h with h | ⟨a, kvs, rfl, rfl, g, q⟩
  · exact op_din hu pins s σ H x y v u Q I rx ry h
  · obtain rfl : u = Value.ref a := ry
    obtain rfl : v = Value.none := rx
    exact d_inNone I g fun s' I' => ⟨.bl false, H, I', rfl, q⟩
theorem s_dinN [Tbl] {K : PySem.W.Frag} : OpS K rDInN dDInN := by
  intro w H h x y a b d Q ok vx vy e q
  unfold dDInN at e
  split at e
  · next kvs e1 =>
    cases e
    cases vx
    obtain ⟨p, i, vs, rfl, rfl, h1, h2, h3, r⟩ := getD_ok ok vy e1
    exact .inr ⟨p, _, rfl, rfl, .inl h3, q _ _ _ (Step.refl _ _) ok (.bl _)⟩
  · exact .inl (s_din w H h x y _ _ d Q ok vx vy e q)
end
end Vi

set_option Elab.async false
set_option linter.all false
set_option autoImplicit false
set_option maxRecDepth 100000
set_option maxHeartbeats 2000000
namespace Vi
open PySem PySem.Spec PyProof.Rows L2
open scoped Classical
/-! ### list.remove(text), the text in the list -/
theorem first_txt : ∀ {ys : List Str} {k : Str}, k ∈ ys → ∃ j, ys[j]? = some k ∧ (∀ i z, i < j → ys[i]? = some z → z ≠ k) ∧ ys.eraseIdx j = ys.erase k
  | y :: ys, k, m => by
    by_cases e : y = k
    · subst e
      exact ⟨0, rfl, fun i _ hi => by omega, by simp⟩
    · obtain ⟨j, h1, h2, h3⟩ := first_txt ((List.mem_cons.mp m).resolve_left fun q => e q.symm)
      refine ⟨j + 1, h1, fun i z hi ez => ?_, ?_⟩
      · cases i with
        | zero => cases ez; exact e
        | succ i => exact h2 i z (by omega) ez
      · rw [List.erase_cons_tail (by simpa using e), ← h3]
        rfl
theorem txt_at {k : Str} : ∀ {vs : List Value} {ys : List Str}, StrsAre vs ys → ∀ (i : Nat) (h : i < vs.length), isStrOf k vs[i] = true ↔ ys[i]? = some k
  | _, _, .cons n _ _, 0, _ => by
    show (n == k) = true ↔ (some n : Option Str) = some k
    simp
  | _, _, .cons _ _ t, i + 1, h => txt_at t i (by simpa using h)
def rRemT : V → List V → Hp → VK → Prop := fun o zs H R => ∃ (p : Addr) (ys : List Str) (k : Str), o = .ref p ∧ zs = [.str k] ∧ H p = some (.lst (ys.map V.str)) ∧ k ∈ ys ∧ R .non (upd H p (.lst ((ys.erase k).map V.str)))
theorem mt_remT {X : Cx} : MtM X "list.remove" rRemT := by
  intro pn sh σ H o zs vo vz R I ro rz q
  obtain ⟨p, ys, k, rfl, rfl, hp, hk, q⟩ := q
  cases ro
  obtain ⟨u, rfl, ru⟩ := rz.one
  obtain ⟨t, rfl⟩ := ru
  obtain ⟨z, its, n, r, hl, eo⟩ := I.lstM hp
  have ha := strs_of_vals r
  obtain ⟨j, j1, j2, j3⟩ := first_txt hk
  have hyl : ys.length = its.length := by rw [← hl, List.length_map]
  have hj : j < its.length := by
    have := (List.getElem?_eq_some_iff.mp j1).1
    omega
  refine call_meets PySem.F.slot_list_remove ⟨_, eo, rfl⟩ PySem.F.entry_list_remove (PySem.F.args_list_remove_2 _ _) (MeetsSeq.list_remove p its.toArray n (.str k t) (isStrOf k) (fun y m => eq_isStrOf k t ha y (by simpa using m)) j (by simpa using hj) ?_ ?_ (by rw [List.size_toArray, ← hl]; exact z)) ⟨eo, ?_⟩
  · have e1 : its.toArray[j]'(by simpa using hj) = its[j] := by simp
    rw [e1]
    exact (txt_at ha j hj).mpr j1
  · intro i hi lt
    have hi3 : i < its.length := by simpa using hi
    have e1 : its.toArray[i] = its[i] := by simp
    rw [e1, Bool.eq_false_iff]
    intro w
    exact j2 i k lt ((txt_at ha i hi3).mp w) rfl
  · have r2 := r.eraseIdx j
    have em : ∀ (l : List Str) (i : Nat), (l.map V.str).eraseIdx i = (l.eraseIdx i).map V.str := fun l => by
      induction l with
      | nil => intro i; rfl
      | cons a l ih =>
        intro i
        cases i with
        | zero => rfl
        | succ i =>
          show V.str a :: (l.map V.str).eraseIdx i = _
          rw [ih]
          rfl
    rw [em, j3] at r2
    refine ⟨.non, _, I.lset (its' := its.eraseIdx j) (t' := sh.toks) hp eo ?_ r2 ?_, rfl, q⟩
    · show its.toArray.eraseIdxIfInBounds j = _
      exact List.eraseIdxIfInBounds_toArray ..
    · have := List.length_erase_le (a := k) (l := ys)
      rw [List.length_map] at z ⊢
      omega
def gRemT : D → List D → Hap → Rs D := fun a ds h => match a, ds with
  | .ref i, [.str k] => match h[i]? with
    | some (.lst xs) => match strsOf xs with
      | some ys => if k ∈ ys then .ok .non (h.set i (.lst ((ys.erase k).map .str))) else .stuck
      | none => .stuck
    | _ => .stuck
  | _, _ => .stuck
theorem s_remT [Tbl] {K : PySem.W.Frag} {gm : Str → Option Value} : MetS K gm rRemT gRemT := by
  intro w H h x xs a ds Q E ok r1 r2 p
  unfold gRemT at p
  split at p
  · next i k =>
    split at p
    · next zs e1 =>
      split at p
      · next ys e2 =>
        split at p
        · next hk =>
          have := strsOf_is e2
          subst this
          obtain ⟨v, rfl, r3⟩ := vrs1 r2
          cases r3
          cases r1
          next a er =>
          obtain ⟨_, o, e3, e4⟩ := ok.cel i a _ er e1
          cases o <;> simp [CRel] at e4
          next vs =>
          have := VRs.strs e4
          subst this
          have q := ok.write (hn := by rw [e1]; exact fun _ z => nomatch z) (o := .lst ((ys.erase k).map V.str)) (c := .lst ((ys.erase k).map .str)) er VRs.of_strs
          exact ⟨a, ys, k, rfl, rfl, e3, hk, p _ _ _ q.2 q.1 .non⟩
        · exact p.elim
      · exact p.elim
    · exact p.elim
  · exact p.elim
end Vi

set_option Elab.async false
set_option linter.all false
set_option autoImplicit false
set_option maxRecDepth 100000
set_option maxHeartbeats 2000000
namespace Vi
open PySem PySem.Spec PyProof.Rows L2
open scoped Classical
/-! ### text.replace(written, written), behind a written text in a list -/
def mRepl (y z : Str) (o : ME) : ME := fun env h => (o env h).bind fun x h1 => match x with
  | .str a => if a.length + (a.length + 1) * z.length ≤ 16777216 then .ok (.str (Txt.replace a y z)) h1 else .stuck
  | _ => .stuck
section
variable {X : Cx} {W : WX}
theorem PET.imp {e : Expr} {t t' : TE} (p : PET X e t) (i : ∀ σ H Q, t' σ H Q → t σ H Q) : PET X e t' := fun pn sh σ H Q h0 I q => p pn sh σ H Q h0 I (i _ _ _ q)
theorem PAT.imp {es : List Expr} {t t' : TA} (p : PAT X es t) (i : ∀ σ H Q, t' σ H Q → t σ H Q) : PAT X es t' := fun ps pn sh σ H Q h0 I q => p ps pn sh σ H Q h0 I (i _ _ _ q)
theorem e_repl [Tbl] {o : Expr} {mo : ME} {y z : Str} {j k : Nat} {c0 c1 apos pos : Pos} (ho : PE X o (tE X.K X.mg W mo)) (hyz : (y == z) = false := by decide)
    (h2c : [(false, eval (.Constant (.str y) j c0) X.env), (false, eval (.Constant (.str z) k c1) X.env)] = starEach [.Constant (.str y) j c0, .Constant (.str z) k c1] X.env := by rfl) (hb : attributeBase o "replace" X.env (eval o X.env) = eval o X.env := by rfl) (hl : (apos.endLine == pos.line) = true := by rfl) :
    PET X (.Call (.Attribute o "replace" apos) [.Constant (.str y) j c0, .Constant (.str z) k c1] [] pos) (tE X.K X.mg W (mRepl y z mo)) :=
  PET.imp (CwR.pet_replC ho hyz h2c.symm hb hl) fun σ H Q ⟨w, env, h, ok, er, p⟩ => ⟨w, env, h, ok, er, Post.bind p fun x da w1 H1 h1 s1 ok1 v1 p1 => by
    cases v1 with
    | str a =>
      by_cases c : a.length + (a.length + 1) * z.length ≤ 16777216
      · have p2 : Post X.K X.mg (VR X.K) w1 H1 (.ok (.str (Txt.replace a y z)) h1) Q (fun c d H' => W c d σ H') := by
          simp only [if_pos c] at p1
          exact p1
        exact ⟨a, rfl, c, p2.ok ok1 (.str _)⟩
      · simp only [if_neg c] at p1
        exact p1.elim
    | _ => exact p1.elim⟩
theorem at_nil [Tbl] : PAT X [] (tA X.K X.mg W mNil) := PAT.imp pat_nil fun σ H Q ⟨w, env, h, ok, er, p⟩ => p.ok ok .nil
theorem at_cons [Tbl] {e : Expr} {es : List Expr} {m : ME} {r : MA} (ha : PET X e (tE X.K X.mg W m)) (hr : PAT X es (tA X.K X.mg W r)) (hs : starEach (e :: es) X.env = (false, eval e X.env) :: starEach es X.env := by rfl) : PAT X (e :: es) (tA X.K X.mg W (mCons m r)) :=
  PAT.imp (pat_cons ha hr hs) fun σ H Q ⟨w, env, h, ok, er, p⟩ => ⟨w, env, h, ok, er, Post.bind p fun x da w1 H1 h1 s1 ok1 v1 p1 => ⟨w1, env, h1, ok1, er.mono s1, Post.bind p1 fun xs ds w2 H2 h2 s2 ok2 v2 p2 => p2.ok ok2 (.cons (v1.mono s2) v2)⟩⟩
/-- the first of the items is a written text and something more: a token is out -/
theorem pa_first {y : Str} {f : Expr} {es : List Expr} {op : Operator} {r : R2} {tf : TE} {ta : TA} {j : Nat} {c0 pos : Pos} (ho : OpR X (binaryOp op) r) (hf : PE X f tf) (hr : PAT X es ta)
    (hs : starEach (.BinOp (.Constant (.str y) j c0) op f pos :: es) X.env = (false, eval (.BinOp (.Constant (.str y) j c0) op f pos) X.env) :: starEach es X.env := by rfl) :
    PA X (.BinOp (.Constant (.str y) j c0) op f pos :: es) (tCons (tOp r (tC (.str y)) tf) ta) := by
  refine ⟨fun ps pn sh σ H Q I h => ?_⟩
  rw [hs]
  show wpAny _ _ (spliced ((false, eval (.BinOp (.Constant (.str y) j c0) op f pos) X.env) :: backTo ps (starEach es X.env))) _ _ sh
  refine Calls.spliced_cons (wpAny_BinOp (Calls.Constant_str ?_))
  refine wpAny_mono (PySem.wpAny_toks (hf.run pn _ σ H _ (I.tok (sh.toks + 1)) h)) (fun v s1 q => ?_) fun _ _ z => z.2
  obtain ⟨hk, xv, H1, I1, r1, q1⟩ := q
  have hk : sh.toks + 1 ≤ s1.toks := hk
  refine wpAny_mono (PySem.wpAny_toks (ho pn s1 σ H1 (.str y) xv _ v _ I1 ⟨_, rfl⟩ r1 q1)) (fun u s2 q => ?_) fun _ _ z => z.2
  obtain ⟨hk2, x2, H2, I2, r2, q2⟩ := q
  exact thn (hr ps pn s2 σ H2 _ (by omega) I2 q2) fun us s3 ⟨xs, H3, I3, r3, q3⟩ => ⟨x2 :: xs, H3, I3, .cons r2 r3, q3⟩
theorem a_first [Tbl] {y : Str} {f : Expr} {es : List Expr} {op : Operator} {r : R2} {g : D → D → Hap → Option D} {mf : ME} {mr : MA} {j : Nat} {c0 pos : Pos} (ho : OpR X (binaryOp op) r) (s : OpS X.K r g) (hf : PE X f (tE X.K X.mg W mf)) (hr : PAT X es (tA X.K X.mg W mr))
    (hs : starEach (.BinOp (.Constant (.str y) j c0) op f pos :: es) X.env = (false, eval (.BinOp (.Constant (.str y) j c0) op f pos) X.env) :: starEach es X.env := by rfl) :
    PA X (.BinOp (.Constant (.str y) j c0) op f pos :: es) (tA X.K X.mg W (mCons (mBin g (mC (.str y)) mf) mr)) := PA.imp (pa_first ho hf hr hs) fun σ H Q ⟨w, env, h, ok, er, p⟩ => by
  have q : tOp r (tE X.K X.mg W (mC (.str y))) (tE X.K X.mg W mf) σ H (fun x H1 => tA X.K X.mg W mr σ H1 fun xs H2 => Q (x :: xs) H2) := t_bin s σ H _ ⟨w, env, h, ok, er, Post.bind p fun x da w1 H1 h1 s1 ok1 v1 p1 => ⟨w1, env, h1, ok1, er.mono s1, Post.bind p1 fun xs ds w2 H2 h2 s2 ok2 v2 p2 => p2.ok ok2 (.cons (v1.mono s2) v2)⟩⟩
  obtain ⟨w9, env9, h9, ok9, er9, p9⟩ := q
  exact p9.ok ok9 (.str y)
end
/-! ### a, b = a list -/
def gTl (n : Nat) (b : MGs) : MG := fun d env h => match getL d h with
  | some ds => if ds.length = n then b ds env h else none
  | none => none
theorem g_tl [Tbl] {K : PySem.W.Frag} {n : Nat} {t : TGs} {b : MGs} {vs : List Nat} (s : TgsS K t b vs) : TgS K (gLst K n t) (gTl n b) vs := fun w H h x d σ env env' Q ok vr er e q => by
  unfold gTl at e
  split at e
  · next ds e1 =>
    split at e
    · next hl =>
      obtain ⟨p, zs, rfl, h1, r1⟩ := getL_ok ok vr e1
      exact ⟨p, zs, rfl, h1, by rw [r1.length]; exact hl, s w H h zs ds σ env env' Q ok r1 er e q⟩
    · cases e
  · cases e
end Vi

set_option Elab.async false
set_option linter.all false
set_option autoImplicit false
set_option maxRecDepth 100000
set_option maxHeartbeats 2000000
namespace Vi
open PySem PySem.Spec PyProof.Rows L2
open scoped Classical
/-! ### d[k] += n -/
def mDAug (o i a : ME) : MS := fun env h => RsS (o env h) env fun od h1 => RsS (i env h1) env fun id h2 => match dDGet od id h2 with
  | some v => RsS (a env h2) env fun d h3 => match dAddI v d h3 with
    | some z => match sDix od id z h3 with
      | some h4 => .nx env h4
      | none => .stuck
    | none => .stuck
  | none => .stuck
theorem s_daug [Tbl] {X : Cx} {W : WX} {o i e : Expr} {mo mi me : ME} {tpos pos : Pos} (hu : X.A.units + 64 < cLine) (ho : PE X o (tE X.K X.mg W mo)) (hi : PE X i (tE X.K X.mg W mi)) (he : PE X e (tE X.K X.mg W me))
    (hst : ∀ u x n, augStore i u x n = (do holding [n, u, x] (setItem u x n); release [n, u, x] []; pure .next) := by intro _ _ _; rfl) :
    PS X (.AugAssign (.Subscript o i tpos) .Add e pos) (tS X.K X.mg W (mDAug mo mi me)) := PS.imp (ps_daug (by omega) ho hi he in_add hst) fun D σ H ⟨w, env, h, ok, er, p⟩ =>
  ⟨w, env, h, ok, er, PostS.bind er p fun x od w1 H1 h1 s1 ok1 v1 p1 => ⟨w1, env, h1, ok1, er.mono s1, PostS.bind (er.mono s1) p1 fun y id w2 H2 h2 s2 ok2 v2 p2 => by
    cases e0 : dDGet od id h2 with
    | none => rw [e0] at p2; exact p2.elim
    | some v0 =>
      rw [e0] at p2
      obtain ⟨a, v, rfl, g, w3, s3, ok3, v3⟩ := s_dget w2 H2 h2 x y od id v0 (fun v H' => ∃ w', Step w2 H2 w' H' ∧ Ok X.K w' H' h2 ∧ VR X.K w' v v0) ok2 (v1.mono s2) v2 e0 fun v w' H' s ok r => ⟨w', s, ok, r⟩
      have er3 := ((er.mono s1).mono s2).mono s3
      refine ⟨a, v, rfl, g, w3, env, h2, ok3, er3, ?_⟩
      have p3 : PostS X.K X.mg w3 H2 (RsS (me env h2) env fun d h3 => match dAddI v0 d h3 with
        | some z => match sDix od id z h3 with
          | some h4 => .nx env h4
          | none => .stuck
        | none => .stuck) D W := by
        have p2 : PostS X.K X.mg w2 H2 (RsS (me env h2) env fun d h3 => match dAddI v0 d h3 with
          | some z => match sDix od id z h3 with
            | some h4 => .nx env h4
            | none => .stuck
          | none => .stuck) D W := p2
        revert p2
        cases RsS (me env h2) env fun d h3 => match dAddI v0 d h3 with
          | some z => match sDix od id z h3 with
            | some h4 => .nx env h4
            | none => .stuck
          | none => .stuck with
        | nx e h => exact fun p σ w' H' s => p σ w' H' (s3.trans s)
        | rt d h => exact fun p v w' H' s => p v w' H' (s3.trans s)
        | bk e h => exact fun p σ w' H' s => p σ w' H' (s3.trans s)
        | ct e h => exact fun p σ w' H' s => p σ w' H' (s3.trans s)
        | er c fs e h => exact fun p cv d σ w' H' hc s => p cv d σ w' H' hc (s3.trans s)
        | stuck => exact fun p => p
      refine PostS.bind er3 p3 fun y2 d w4 H4 h4 s4 ok4 v4 p4 => ?_
      cases e1 : dAddI v0 d h4 with
      | none => rw [e1] at p4; exact p4.elim
      | some z =>
        rw [e1] at p4
        obtain ⟨n, m, rfl, rfl, rfl⟩ : ∃ n m : Int, v0 = .int n ∧ d = .int m ∧ z = .int (n + m) := by
          unfold dAddI at e1
          split at e1 <;> cases e1
          exact ⟨_, _, rfl, rfl, rfl⟩
        have v3' := v3.mono s4
        cases v3'
        cases v4
        refine ⟨n, m, rfl, rfl, ?_⟩
        cases e2 : sDix od id (.int (n + m)) h4 with
        | none => simp only [e2] at p4; exact p4.elim
        | some h5 =>
          simp only [e2] at p4
          unfold sDix at e2
          split at e2
          · next j k ek =>
            split at e2
            · next kvs ej =>
              split at e2
              · next hl =>
                cases e2
                have vy := (v2.mono s3).mono s4
                have q1 := keyD_ok vy ek
                subst q1
                obtain ⟨p, i2, vs, e8, e9, h1', h2', h3', r⟩ := getD_ok (ds := kvs) ok4 (((v1.mono s2).mono s3).mono s4) (by unfold getD; dsimp only; rw [ej])
                cases e9
                cases e8
                have rr := r.put (VR.int (n + m)) k
                refine ⟨_, DPut.k h3' (by rw [r.len]; exact hl), ?_⟩
                have zz := ok4.dwrite (by rw [h2']; exact fun _ z => nomatch z) h1' rr
                exact p4 σ w4 _ zz.2 zz.1 (er3.mono s4)
              · cases e2
            · cases e2
          · cases e2⟩⟩
/-! ### {k: v, ..}, the keys texts -/
def mLs : List ME → MA
  | [] => mNil
  | m :: r => mCons m (mLs r)
def mDisp (ks : List Str) (ms : List ME) : ME := fun env h => (mLs ms env (h ++ [.dct []])).bind fun ds h2 => match h2[h.length]? with
  | some (.dct []) => if ds.length = ks.length ∧ ks.length ≤ 15 then .ok (.ref h.length) (h2.set h.length (.dct ((ks.zip ds).foldl (fun acc kv => putD acc (.inr kv.1) kv.2) []))) else .stuck
  | _ => .stuck
section
variable {gm : Str → Option Value} {X : Cx} {W : WX}
theorem Post.since [Tbl] {α β : Type} {K : PySem.W.Frag} {VA : Wd → β → α → Prop} {w w0 : Wd} {H H0 : Hp} {r : Rs α} {Q : β → Hp → Prop} {E : XK} (p : Post K gm VA w H r Q E) (s : Step w H w0 H0) : Post K gm VA w0 H0 r Q E := by
  cases r with
  | ok a h => exact fun v w' H' s' => p v w' H' (s.trans s')
  | err c fs h => exact fun cv d w' H' hc s' => p cv d w' H' hc (s.trans s')
  | stuck => exact p
theorem t_pairs [Tbl] {K : PySem.W.Frag} : ∀ (ks : List Str) (ms : List ME), ks.length = ms.length → ∀ (σ : L2.St) (H : Hp) (R : List (V × V) → Hp → Prop),
    tA K gm W (mLs ms) σ H (fun vs H' => R ((ks.map V.str).zip vs) H') → tPairs (List.zipWith (fun k m => (tC (V.str k), tE K gm W m)) ks ms) σ H R
  | [], [], _, σ, H, R, ⟨w, env, h, ok, er, p⟩ => by
    have z := (show Post K gm (VRs K) w H (mNil env h) _ _ from p).ok ok VRs.nil
    exact z
  | k :: ks, m :: ms, hl, σ, H, R, ⟨w, env, h, ok, er, p⟩ => ⟨w, env, h, ok, er, Post.bind (show Post K gm (VRs K) w H (mCons m (mLs ms) env h) _ _ from p) fun x da w1 H1 h1 s1 ok1 v1 p1 => t_pairs ks ms (by simpa using hl) σ H1 _ ⟨w1, env, h1, ok1, er.mono s1, Post.bind p1 fun xs ds w2 H2 h2 s2 ok2 v2 p2 => by have z := p2.ok ok2 (VRs.cons (v1.mono s2) v2); exact z⟩⟩
theorem kvr_fold [Tbl] {K : PySem.W.Frag} {w : Wd} : ∀ (ks : List Str) {vs : List V} {ds : List D} {kvs : List (Key × V)} {kds : List (Key × D)}, VRs K w vs ds → KVR K w kvs kds →
    KVR K w (mergeK kvs ((ks.zip vs).map fun kv => ((.inr kv.1 : Key), kv.2))) ((ks.zip ds).foldl (fun acc kv => putD acc (.inr kv.1) kv.2) kds)
  | [], _, _, _, _, _, r => r
  | _ :: _, _, _, _, _, .nil, r => r
  | k :: ks, _, _, _, _, .cons a b, r => kvr_fold ks b (r.put a (.inr k))
theorem zip_key : ∀ (ks : List Str) (vs : List V), (ks.map V.str).zip vs = ((ks.zip vs).map fun kv => ((.inr kv.1 : Key), kv.2)).map fun kv => (kV kv.1, kv.2)
  | [], _ => rfl
  | _ :: _, [] => rfl
  | k :: ks, v :: vs => by
    rw [List.map_cons, List.zip_cons_cons, List.zip_cons_cons, List.map_cons, List.map_cons, zip_key ks vs]
    rfl
theorem e_disp [Tbl] {pos : Pos} {keys : List (Option Expr)} {values : List Expr} (ks : List Str) (ms : List ME) (h : PPs X pos keys values (List.zipWith (fun k m => (tC (V.str k), tE X.K X.mg W m)) ks ms)) (hkm : ks.length = ms.length) (hall : keys.all (·.isSome) = true) (hl : keys.length = values.length) (h0 : keys ≠ [])
    (h15 : keys.length ≤ 15) : PE X (.Dict keys values pos) (tE X.K X.mg W (mDisp ks ms)) := PE.imp (pe_disp h hall hl h0 h15) fun σ H Q ⟨w, env, h, ok, er, p⟩ pa ha => by
  have q := ok.cell (c := .dct []) (o := .dK []) ha ⟨rfl, .nil⟩
  have hr : (w.ρ ++ [pa])[h.length]? = some pa := by
    rw [← ok.len, List.getElem?_append_right (Nat.le_refl _), Nat.sub_self]
    rfl
  refine t_pairs ks ms hkm σ _ _ ⟨_, env, _, q.1, er.mono q.2, Post.bind (Post.since p q.2) fun vs ds w2 H2 h2 s2 ok2 v2 p2 => ?_⟩
  cases e1 : h2[h.length]? with
  | none => rw [e1] at p2; exact p2.elim
  | some c =>
    rw [e1] at p2
    cases c with
    | dct kds =>
      cases kds with
      | nil =>
        simp only [] at p2
        by_cases hd : ds.length = ks.length ∧ ks.length ≤ 15
        · have p3 : Post X.K X.mg (VR X.K) w2 H2 (.ok (.ref h.length) (h2.set h.length (.dct ((ks.zip ds).foldl (fun acc kv => putD acc (.inr kv.1) kv.2) [])))) Q (fun c d H' => W c d σ H') := by
            simp only [if_pos hd] at p2
            exact p2
          have hi := s2.ix hr
          obtain ⟨_, o, e2, e3⟩ := ok2.cel h.length pa _ hi e1
          cases o <;> simp [CRel] at e3
          next vs0 =>
          have hv : vs0 = [] := by
            have := congrArg List.length e3.1
            simpa using this
          subst hv
          have hlen : vs.length = ks.length := by rw [v2.length]; exact hd.1
          refine ⟨e2, (ks.zip vs).map fun kv => ((.inr kv.1 : Key), kv.2), ?_, by rw [List.length_map, List.length_zip, hlen]; omega, ?_⟩
          · exact zip_key ks vs
          · have zz := ok2.dwrite (by rw [e1]; exact fun _ z => nomatch z) hi (kvr_fold ks v2 KVR.nil)
            exact p3 _ w2 _ zz.2 zz.1 (.ref hi)
        · simp only [if_neg hd] at p2
          exact p2.elim
      | cons _ _ => exact p2.elim
    | lst _ => exact p2.elim
    | ins _ _ => exact p2.elim
    | lok _ => exact p2.elim
end
end Vi

set_option Elab.async false
set_option linter.all false
set_option autoImplicit false
set_option maxRecDepth 100000
set_option maxHeartbeats 2000000
namespace Vi
open PySem PySem.Spec PyProof.Rows L2
open scoped Classical
/-! ### list.count(text) -/
def rCntT (K : PySem.W.Frag) : V → List V → Hp → VK → Prop := fun o zs H R => ∃ (p : Addr) (ys : List Str) (k : Str), o = .ref p ∧ zs = [.str k] ∧ SqL K H p (ys.map V.str) ∧ R (.int (ys.count k : Nat)) H
theorem cnt_txt {k : Str} : ∀ {us : List Value} {ys : List Str}, StrsAre us ys → us.countP (isStrOf k) = ys.count k
  | _, _, .nil => rfl
  | _, _, .cons n t r => by
    have e := cnt_txt (k := k) r
    rw [List.countP_cons, List.count_cons, e]
    rfl
theorem mt_cntT {X : Cx} : MtR X "list.count" (rCntT X.K) := by
  intro pn sh σ H o zs vo vz R I ro rz q
  obtain ⟨p, ys, k, rfl, rfl, hq, q⟩ := q
  cases ro
  obtain ⟨u, rfl, ru⟩ := rz.one
  obtain ⟨t, rfl⟩ := ru
  obtain ⟨vs, rv, ⟨⟨c0, d0, dt, slt⟩, m, hget, hcl, hdt, hdd⟩, _⟩ := I.list hq
  simp only at hcl hdd
  subst hcl
  subst hdd
  have ha := strs_of_vals rv
  have ec : vs.toArray.toList.countP (isStrOf k) = ys.count k := cnt_txt ha
  refine call_meets PySem.F.slot_list_count ⟨_, hget, rfl⟩ PySem.F.entry_list_count (PySem.F.args_list_count_2 _ _) (SeqAt.list_countAt p vs.toArray m d0 slt (.str k t) (isStrOf k))
    ⟨hget, fun y my => (eq_isStrOf k t ha y (by simpa using my)).at _ _, .int (ys.count k : Nat), H, I.tok _, ⟨sh.toks, ?_⟩, q⟩
  show Value.int ((vs.toArray.toList.countP (isStrOf k) : Nat) : Int) sh.toks = .int ((ys.count k : Nat) : Int) sh.toks
  rw [ec]
def dCntT : D → List D → Hap → Option D := fun a ds h => match ds with
  | [.str k] => (getL a h).bind fun xs => (strsOf xs).map fun ys => .int (ys.count k : Nat)
  | _ => none
theorem s_cntT [Tbl] {K : PySem.W.Frag} : PMetS K (rCntT K) dCntT := by
  intro w H h x xs a ds d Q ok r1 r2 e q
  unfold dCntT at e
  split at e
  · obtain ⟨us, e1, e2⟩ := Option.bind_eq_some_iff.mp e
    obtain ⟨ys, e3, rfl⟩ := Option.map_eq_some_iff.mp e2
    obtain ⟨p, vs, rfl, sq, r⟩ := getL_ok ok r1 e1
    obtain ⟨y, rfl, r3⟩ := vrs1 r2
    cases r3
    have := strsOf_is e3
    subst this
    have := VRs.strs r
    subst this
    exact ⟨p, ys, _, rfl, rfl, sq, q _ _ _ (Step.refl _ _) ok (.int _)⟩
  · cases e
/-! ### d[k], d perhaps walked -/
def getDL (d : D) (h : Hap) : Option (List (Key × D)) := match d with
  | .ref i => match h[i]? with
    | some (.dct kvs) => some kvs
    | some (.lok kvs) => some kvs
    | _ => none
  | _ => none
theorem getDL_ok [Tbl] {K : PySem.W.Frag} {w : Wd} {H : Hp} {h : Hap} {x : V} {d : D} {ds : List (Key × D)} (ok : Ok K w H h) (r : VR K w x d) (e : getDL d h = some ds) : ∃ a vs, x = .ref a ∧ Rd H a (.dK vs) ∧ KVR K w vs ds := by
  cases r <;> simp [getDL] at e
  next a i e1 =>
  split at e
  · next xs e2 =>
    cases e
    obtain ⟨_, o, e3, e4⟩ := ok.cel i a _ e1 e2
    cases o <;> simp [CRel] at e4
    next vs => exact ⟨a, vs, rfl, .inl e3, kvr_of e4.1 e4.2⟩
  · next xs e2 =>
    cases e
    obtain ⟨od, vs, e3, e4, e5⟩ := ok.cel i a _ e1 e2
    exact ⟨a, vs, rfl, .inr ⟨od, ok.sub _ _ e3⟩, kvr_of e4 e5⟩
  · cases e
def dDGetL : D → D → Hap → Option D := fun a b h => match getDL a h, keyD b with
  | some kvs, some k => valD kvs k
  | _, _ => none
theorem s_dgetL [Tbl] {K : PySem.W.Frag} : OpS K rDGet dDGetL := by
  intro w H h x y a b d Q ok vx vy e q
  unfold dDGetL at e
  split at e
  · next kvs k e1 e2 =>
    obtain ⟨p, vs, rfl, h3, r⟩ := getDL_ok ok vx e1
    have q1 := keyD_ok vy e2
    subst q1
    rcases r.val k with ⟨z1, z2⟩ | ⟨v, d2, z1, z2, z3⟩
    · rw [e] at z2; cases z2
    · rw [e] at z2
      cases z2
      exact ⟨p, v, rfl, .inl ⟨vs, k, h3, rfl, z1.symm⟩, q _ _ _ (Step.refl _ _) ok z3⟩
  · cases e
theorem e_dgetL [Tbl] {X : Cx} {W : WX} {o i : Expr} {mo mi : ME} {pos : Pos} (hu : X.A.units + 64 < cLine) (ho : PE X o (tE X.K X.mg W mo)) (hi : PE X i (tE X.K X.mg W mi)) (hs : NoSl i) : PE X (.Subscript o i pos) (tE X.K X.mg W (mBin dDGetL mo mi)) :=
  PE.imp (pe_dget (by omega) ho hi hs) (t_bin s_dgetL)
end Vi

set_option Elab.async false
set_option linter.all false
set_option autoImplicit false
set_option maxRecDepth 100000
namespace Mi
open PySem PyProof.Rows L2 Vi
noncomputable section
def b_is_segment : MS := (mSeq (mIfS (mOrT (mTst (mBin dEq (mVar 0) (mC (.str "")))) (mTst (mBin dGt (mCB dLen (mCons (mVar 0) mNil)) (mC (.int 20))))) (mRet (mC (.bl false))) mNext)
    (mSeq (mIfS (mTst (mBin dNotIn (mBin dIx (mVar 0) (mC (.int 0))) (mC (.str "abcdefghijklmnopqrstuvwxyz0123456789")))) (mRet (mC (.bl false))) mNext)
    (mRet (mCB dAll (mCons (mComp (mI (mVar 0)) [1] (gNm 1) mYes (mBin dIn (mVar 1) (mC (.str "abcdefghijklmnopqrstuvwxyz0123456789_-.")))) mNil)))))
def m_is_segment : MF := run 2 b_is_segment
def b_lies_in : MS := (mRet (mOr (mBin dEq (mVar 1) (mC (.str ""))) (mMet "str" (gP dStarts) (mVar 0) (mCons (mBin dAdd (mVar 1) (mC (.str "/"))) mNil))))
def m_lies_in : MF := run 2 b_lies_in
def b_law_next : MS := (mSeq (mIfS (mTst (mBin dGt (mBin dIx (mVar 0) (mC (.int 1))) (mC (.int 0)))) (mSeq (mAsg (mBin dMod (mCB dInt (mCons (mBin dIx (mVar 0) (mC (.int 1))) mNil)) (mVar 2)) (gNm 3))
    (mSeq (mSub (mBin dDiv (mCB dInt (mCons (mBin dIx (mVar 0) (mC (.int 1))) mNil)) (mVar 2)) (mVar 0) (mC (.int 1)))
    (mRet (mVar 3)))) mNext)
    (mSeq (mAsg (mC (.int 0)) (gNm 4))
    (mSeq (mIfS (mTst (mBin dLt (mBin dIx (mVar 0) (mC (.int 0))) (mCB dLen (mCons (mVar 1) mNil)))) (mAsg (mCB dAbs (mCons (mCB dInt (mCons (mBin dIx (mVar 1) (mBin dIx (mVar 0) (mC (.int 0)))) mNil)) mNil)) (gNm 4)) mNext)
    (mSeq (mSub (mBin dAdd (mBin dIx (mVar 0) (mC (.int 0))) (mC (.int 1))) (mVar 0) (mC (.int 0)))
    (mSeq (mIfS (mTst (mBin dGe (mVar 4) (mBin dPow (mC (.int 10)) (mC (.int 18))))) (mSeq (mSub (mBin dDiv (mVar 4) (mVar 2)) (mVar 0) (mC (.int 1)))
    (mRet (mBin dMod (mCB dInt (mCons (mVar 4) mNil)) (mVar 2)))) mNext)
    (mSeq (mSub (mBin dMod (mCB dInt (mCons (mBin dAdd (mBin dAdd (mBin dMul (mBin dIx (mVar 0) (mC (.int 2))) (mC (.int 48271))) (mBin dMul (mVar 4) (mC (.int 69621)))) (mC (.int 12345))) mNil)) (mC (.int 2147483647))) (mVar 0) (mC (.int 2)))
    (mRet (mBin dMod (mCB dInt (mCons (mBin dAdd (mBin dDiv (mBin dIx (mVar 0) (mC (.int 2))) (mC (.int 7))) (mBin dDiv (mBin dMul (mBin dIx (mVar 0) (mC (.int 2))) (mBin dIx (mVar 0) (mC (.int 2)))) (mC (.int 65537)))) mNil)) (mVar 2)))))))))
def m_law_next : MF := run 5 b_law_next
def b_law_yes : MS := (mRet (mAnd (mCB dIsi (mCons (mVar 0) (mCons (mC (.ty "bool")) mNil))) (mBin dEq (mVar 0) (mVar 1))))
def m_law_yes : MF := run 2 b_law_yes
def b_law_lies : MS := (mRet (mOr (mBin dEq (mVar 1) (mC (.str ""))) (mBin dEq (mSl (mVar 0) mNoP (mPart (mBin dAdd (mCB dLen (mCons (mVar 1) mNil)) (mC (.int 1))))) (mBin dAdd (mVar 1) (mC (.str "/"))))))
def m_law_lies : MF := run 2 b_law_lies
def b_law_char : MS := (mSeq (mAsg (mC (.str " !\"#$&'()*+,-./0123456789:;<=>?@ABCDEFGHIJKLMNOPQRSTUVWXYZ[\\]^_`")) (gNm 1))
    (mSeq (mAsg (mBin dAdd (mVar 1) (mC (.str "abcdefghijklmnopqrstuvwxyz{|}~\n"))) (gNm 1))
    (mRet (mBin dIx (mVar 1) (mVar 0)))))
def m_law_char : MF := run 2 b_law_char
def b_law_is_segment : MS := (mSeq (mAsg (mC (.str "abcdefghijklmnopqrstuvwxyz0123456789")) (gNm 1))
    (mSeq (mIfS (mOrT (mTst (mBin dLt (mCB dLen (mCons (mVar 0) mNil)) (mC (.int 1)))) (mOrT (mTst (mBin dGt (mCB dLen (mCons (mVar 0) mNil)) (mC (.int 20)))) (mTst (mBin dNotIn (mBin dIx (mVar 0) (mC (.int 0))) (mVar 1))))) (mRet (mC (.bl false))) mNext)
    (mSeq (mFor (mI (mVar 0)) (gNm 2) (mIfS (mTst (mBin dNotIn (mVar 2) (mBin dAdd (mVar 1) (mC (.str "_-."))))) (mRet (mC (.bl false))) mNext))
    (mRet (mC (.bl true))))))
def m_law_is_segment : MF := run 3 b_law_is_segment
def b_is_path : MS := (mSeq (mAsg (mMet "str" (gP dSplit) (mVar 0) (mCons (mC (.str "/")) mNil)) (gNm 1))
    (mSeq (mIfS (mTst (mBin dGt (mCB dLen (mCons (mVar 1) mNil)) (mC (.int 5)))) (mRet (mC (.bl false))) mNext)
    (mRet (mCB dAll (mCons (mComp (mI (mVar 1)) [2] (gNm 2) mYes (mCall Mi.m_is_segment (mCons (mVar 2) mNil))) mNil)))))
def m_is_path : MF := run 3 b_is_path
def b_law_segment : MS := (mSeq (mAsg (mC (.str "abcdefghijklmnopqrstuvwxyz0123456789")) (gNm 2))
    (mSeq (mAsg (mBin dAdd (mVar 2) (mC (.str "_-."))) (gNm 3))
    (mSeq (mAsg (mBin dAdd (mC (.int 1)) (mCall Mi.m_law_next (mCons (mVar 0) (mCons (mVar 1) (mCons (mC (.int 4)) mNil))))) (gNm 4))
    (mSeq (mIfS (mTst (mBin dEq (mVar 4) (mC (.int 4)))) (mAsg (mBin dAdd (mC (.int 1)) (mCall Mi.m_law_next (mCons (mVar 0) (mCons (mVar 1) (mCons (mC (.int 20)) mNil))))) (gNm 4)) mNext)
    (mSeq (mAsg (mBin dIx (mVar 2) (mCall Mi.m_law_next (mCons (mVar 0) (mCons (mVar 1) (mCons (mC (.int 36)) mNil))))) (gNm 5))
    (mSeq (mFor (mRng rng1 (mCons (mBin dSub (mVar 4) (mC (.int 1))) mNil)) (gNm 6) (mAsg (mBin dAdd (mVar 5) (mBin dIx (mVar 3) (mCall Mi.m_law_next (mCons (mVar 0) (mCons (mVar 1) (mCons (mC (.int 39)) mNil)))))) (gNm 5)))
    (mRet (mVar 5))))))))
def m_law_segment : MF := run 7 b_law_segment
def b_law_words : MS := (mSeq (mAsg (mC (.str "")) (gNm 2))
    (mSeq (mFor (mRng rng1 (mCons (mCall Mi.m_law_next (mCons (mVar 0) (mCons (mVar 1) (mCons (mC (.int 7)) mNil)))) mNil)) (gNm 3) (mSeq (mAsg (mCall Mi.m_law_next (mCons (mVar 0) (mCons (mVar 1) (mCons (mC (.int 12)) mNil)))) (gNm 4))
    (mIfS (mTst (mBin dLt (mVar 4) (mC (.int 6)))) (mAsg (mBin dAdd (mVar 2) (mBin dIx (mLst (mCons (mC (.str "a")) (mCons (mC (.str "b")) (mCons (mC (.str "ab")) (mCons (mC (.str "\n")) (mCons (mC (.str " ")) (mCons (mC (.str "one\n")) mNil))))))) (mVar 4))) (gNm 2)) (mAsg (mBin dAdd (mVar 2) (mCall Mi.m_law_char (mCons (mCall Mi.m_law_next (mCons (mVar 0) (mCons (mVar 1) (mCons (mC (.int 95)) mNil)))) mNil))) (gNm 2)))))
    (mRet (mVar 2))))
def m_law_words : MF := run 5 b_law_words
def b_law_is_path : MS := (mSeq (mAsg (mMet "str" (gP dSplit) (mVar 0) (mCons (mC (.str "/")) mNil)) (gNm 1))
    (mRet (mAnd (mBin dLt (mCB dLen (mCons (mVar 1) mNil)) (mC (.int 6))) (mBin dEq (mCB dLen (mCons (mComp (mI (mVar 1)) [2] (gNm 2) (mNotT (mTst (mCall Mi.m_law_is_segment (mCons (mVar 2) mNil)))) (mC (.int 1))) mNil)) (mC (.int 0))))))
def m_law_is_path : MF := run 3 b_law_is_path
def b_is_folder : MS := (mRet (mOr (mBin dEq (mVar 0) (mC (.str ""))) (mCall Mi.m_is_path (mCons (mVar 0) mNil))))
def m_is_folder : MF := run 1 b_is_folder
def b_law_part : MS := (mSeq (mAsg (mCall Mi.m_law_next (mCons (mVar 0) (mCons (mVar 1) (mCons (mC (.int 8)) mNil)))) (gNm 2))
    (mSeq (mIfS (mTst (mBin dLt (mVar 2) (mC (.int 5)))) (mRet (mBin dIx (mLst (mCons (mC (.str "a")) (mCons (mC (.str "b")) (mCons (mC (.str "ab")) (mCons (mC (.str "a.b")) (mCons (mC (.str "build")) mNil)))))) (mVar 2))) mNext)
    (mRet (mCall Mi.m_law_segment (mCons (mVar 0) (mCons (mVar 1) mNil))))))
def m_law_part : MF := run 3 b_law_part
def b_law_path : MS := (mSeq (mAsg (mBin dAdd (mC (.int 1)) (mCall Mi.m_law_next (mCons (mVar 0) (mCons (mVar 1) (mCons (mC (.int 3)) mNil))))) (gNm 2))
    (mSeq (mIfS (mTst (mBin dEq (mVar 2) (mC (.int 3)))) (mAsg (mBin dAdd (mC (.int 1)) (mCall Mi.m_law_next (mCons (mVar 0) (mCons (mVar 1) (mCons (mC (.int 5)) mNil))))) (gNm 2)) mNext)
    (mRet (mMet "str" (gP dJoin) (mC (.str "/")) (mCons (mComp (mRng rng1 (mCons (mVar 2) mNil)) [3] (gNm 3) mYes (mCall Mi.m_law_part (mCons (mVar 0) (mCons (mVar 1) mNil)))) mNil)))))
def m_law_path : MF := run 4 b_law_path
def b_law_text : MS := (mSeq (mAsg (mCall Mi.m_law_next (mCons (mVar 0) (mCons (mVar 1) (mCons (mC (.int 4)) mNil)))) (gNm 2))
    (mSeq (mIfS (mTst (mBin dEq (mVar 2) (mC (.int 0)))) (mRet (mCall Mi.m_law_words (mCons (mVar 0) (mCons (mVar 1) mNil)))) mNext)
    (mSeq (mAsg (mCall Mi.m_law_segment (mCons (mVar 0) (mCons (mVar 1) mNil))) (gNm 3))
    (mSeq (mIfS (mTst (mBin dGt (mVar 2) (mC (.int 1)))) (mAsg (mMet "str" (gP dJoin) (mC (.str "/")) (mCons (mComp (mRng rng1 (mCons (mBin dAdd (mC (.int 1)) (mCall Mi.m_law_next (mCons (mVar 0) (mCons (mVar 1) (mCons (mBin dIx (mLst (mCons (mC (.int 7)) (mCons (mC (.int 7)) (mCons (mC (.int 30)) mNil)))) (mCall Mi.m_law_next (mCons (mVar 0) (mCons (mVar 1) (mCons (mC (.int 3)) mNil))))) mNil))))) mNil)) [8] (gNm 8) mYes (mCall Mi.m_law_part (mCons (mVar 0) (mCons (mVar 1) mNil)))) mNil)) (gNm 3)) mNext)
    (mSeq (mIfS (mTst (mBin dEq (mCall Mi.m_law_next (mCons (mVar 0) (mCons (mVar 1) (mCons (mC (.int 3)) mNil)))) (mC (.int 0)))) (mAsg (mBin dAdd (mBin dAdd (mVar 3) (mCall Mi.m_law_segment (mCons (mVar 0) (mCons (mVar 1) mNil)))) (mCall Mi.m_law_segment (mCons (mVar 0) (mCons (mVar 1) mNil)))) (gNm 3)) mNext)
    (mSeq (mIfS (mTst (mBin dEq (mCall Mi.m_law_next (mCons (mVar 0) (mCons (mVar 1) (mCons (mC (.int 8)) mNil)))) (mC (.int 0)))) (mAsg (mBin dMul (mVar 3) (mBin dAdd (mC (.int 1)) (mCall Mi.m_law_next (mCons (mVar 0) (mCons (mVar 1) (mCons (mC (.int 14)) mNil)))))) (gNm 3)) mNext)
    (mSeq (mFor (mRng rng1 (mCons (mBin dIx (mLst (mCons (mC (.int 1)) (mCons (mC (.int 1)) (mCons (mC (.int 2)) (mCons (mC (.int 3)) mNil))))) (mCall Mi.m_law_next (mCons (mVar 0) (mCons (mVar 1) (mCons (mC (.int 4)) mNil))))) mNil)) (gNm 4) (mSeq (mAsg (mCall Mi.m_law_next (mCons (mVar 0) (mCons (mVar 1) (mCons (mBin dAdd (mCB dLen (mCons (mVar 3) mNil)) (mC (.int 1))) mNil)))) (gNm 5))
    (mSeq (mAsg (mCall Mi.m_law_next (mCons (mVar 0) (mCons (mVar 1) (mCons (mC (.int 6)) mNil)))) (gNm 6))
    (mSeq (mAsg (mCall Mi.m_law_char (mCons (mCall Mi.m_law_next (mCons (mVar 0) (mCons (mVar 1) (mCons (mC (.int 95)) mNil)))) mNil)) (gNm 7))
    (mSeq (mIfS (mTst (mBin dEq (mVar 6) (mC (.int 0)))) (mAsg (mBin dAdd (mBin dAdd (mSl (mVar 3) mNoP (mPart (mVar 5))) (mVar 7)) (mSl (mVar 3) (mPart (mVar 5)) mNoP)) (gNm 3)) mNext)
    (mSeq (mIfS (mTst (mBin dEq (mVar 6) (mC (.int 1)))) (mAsg (mBin dAdd (mBin dAdd (mSl (mVar 3) mNoP (mPart (mVar 5))) (mVar 7)) (mSl (mVar 3) (mPart (mBin dAdd (mVar 5) (mC (.int 1)))) mNoP)) (gNm 3)) mNext)
    (mIfS (mTst (mBin dEq (mVar 6) (mC (.int 2)))) (mAsg (mBin dAdd (mSl (mVar 3) mNoP (mPart (mVar 5))) (mSl (mVar 3) (mPart (mBin dAdd (mVar 5) (mC (.int 1)))) mNoP)) (gNm 3)) mNext)))))))
    (mRet (mVar 3)))))))))
def m_law_text : MF := run 9 b_law_text
def b_law_folder : MS := (mSeq (mIfS (mTst (mBin dEq (mCall Mi.m_law_next (mCons (mVar 0) (mCons (mVar 1) (mCons (mC (.int 4)) mNil)))) (mC (.int 0)))) (mRet (mC (.str ""))) mNext)
    (mRet (mCall Mi.m_law_path (mCons (mVar 0) (mCons (mVar 1) mNil)))))
def m_law_folder : MF := run 2 b_law_folder
def b_law : MS := (mSeq (mAsg (mCel (mCons (mC (.int 0)) (mCons (mC (.int 0)) (mCons (mC (.int 1)) mNil)))) (gNm 1))
    (mSeq (mAsg (mCall Mi.m_law_text (mCons (mVar 1) (mCons (mVar 0) mNil))) (gNm 2))
    (mSeq (mAsg (mCall Mi.m_law_is_path (mCons (mVar 2) mNil)) (gNm 3))
    (mSeq (mIfS (mOrT (mNotT (mTst (mCall Mi.m_law_yes (mCons (mCall Mi.m_is_segment (mCons (mVar 2) mNil)) (mCons (mCall Mi.m_law_is_segment (mCons (mVar 2) mNil)) mNil))))) (mNotT (mTst (mCall Mi.m_law_yes (mCons (mCall Mi.m_is_path (mCons (mVar 2) mNil)) (mCons (mVar 3) mNil)))))) (mRet (mC (.bl false))) mNext)
    (mSeq (mIfS (mNotT (mTst (mCall Mi.m_law_yes (mCons (mCall Mi.m_is_folder (mCons (mVar 2) mNil)) (mCons (mOr (mVar 3) (mBin dEq (mVar 2) (mC (.str "")))) mNil))))) (mRet (mC (.bl false))) mNext)
    (mSeq (mAsg (mCall Mi.m_law_path (mCons (mVar 1) (mCons (mVar 0) mNil))) (gNm 4))
    (mSeq (mAsg (mCall Mi.m_law_folder (mCons (mVar 1) (mCons (mVar 0) mNil))) (gNm 5))
    (mSeq (mAsg (mCall Mi.m_law_next (mCons (mVar 1) (mCons (mVar 0) (mCons (mC (.int 4)) mNil)))) (gNm 6))
    (mSeq (mIfS (mTst (mBin dEq (mVar 6) (mC (.int 0)))) (mAsg (mVar 4) (gNm 5)) mNext)
    (mSeq (mIfS (mTst (mBin dEq (mVar 6) (mC (.int 1)))) (mSeq (mAsg (mBin dAdd (mSl (mVar 4) mNoP (mPart (mBin dSub (mCB dLen (mCons (mVar 4) mNil)) (mC (.int 1))))) (mC (.str "a/b"))) (gNm 4))
    (mAsg (mSl (mVar 4) mNoP (mPart (mBin dSub (mBin dSub (mCB dLen (mCons (mVar 4) mNil)) (mC (.int 2))) (mCall Mi.m_law_next (mCons (mVar 1) (mCons (mVar 0) (mCons (mC (.int 2)) mNil))))))) (gNm 5))) mNext)
    (mSeq (mIfS (mOrT (mNotT (mTst (mCall Mi.m_law_is_path (mCons (mVar 4) mNil)))) (mNotT (mOrT (mTst (mBin dEq (mVar 5) (mC (.str "")))) (mTst (mCall Mi.m_law_is_path (mCons (mVar 5) mNil)))))) (mRet (mC (.bl true))) mNext)
    (mRet (mCall Mi.m_law_yes (mCons (mCall Mi.m_lies_in (mCons (mVar 4) (mCons (mVar 5) mNil))) (mCons (mCall Mi.m_law_lies (mCons (mVar 4) (mCons (mVar 5) mNil))) mNil)))))))))))))))
def m_law : MF := run 7 b_law
def b_law_same (rc : MF) : MS := (mSeq (mIfS (mTst (mBin dIs (mVar 1) (mC .non))) (mRet (mBin dIs (mVar 0) (mC .non))) mNext)
    (mSeq (mIfS (mTst (mCB dIsi (mCons (mVar 1) (mCons (mC (.ty "tuple")) mNil)))) (mSeq (mIfS (mOrT (mNotT (mTst (mCB dIsi (mCons (mVar 0) (mCons (mC (.ty "tuple")) mNil))))) (mTst (mBin dNe (mCB dLen (mCons (mVar 0) mNil)) (mCB dLen (mCons (mVar 1) mNil))))) (mRet (mC (.bl false))) mNext)
    (mSeq (mFor (mRng rng1 (mCons (mCB dLen (mCons (mVar 1) mNil)) mNil)) (gNm 2) (mIfS (mNotT (mTst (mCall rc (mCons (mBin dIx (mVar 0) (mVar 2)) (mCons (mBin dIx (mVar 1) (mVar 2)) mNil))))) (mRet (mC (.bl false))) mNext))
    (mRet (mC (.bl true))))) mNext)
    (mSeq (mIfS (mTst (mCB dIsi (mCons (mVar 1) (mCons (mC (.ty "bool")) mNil)))) (mRet (mAnd (mCB dIsi (mCons (mVar 0) (mCons (mC (.ty "bool")) mNil))) (mBin dEq (mVar 0) (mVar 1)))) mNext)
    (mSeq (mIfS (mTst (mCB dIsi (mCons (mVar 1) (mCons (mC (.ty "int")) mNil)))) (mRet (mAnd (mCB dIsi (mCons (mVar 0) (mCons (mC (.ty "int")) mNil))) (mAnd (mNot (mCB dIsi (mCons (mVar 0) (mCons (mC (.ty "bool")) mNil)))) (mBin dEq (mVar 0) (mVar 1))))) mNext)
    (mRet (mAnd (mCB dIsi (mCons (mVar 0) (mCons (mC (.ty "str")) mNil))) (mBin dEq (mVar 0) (mVar 1))))))))
def mm_law_same : Nat → MF
  | 0 => fun _ _ => .stuck
  | n + 1 => run 3 (b_law_same (mm_law_same n))
def m_law_same : MF := mm_law_same 12
def b_words_of : MS := (mRet (mJs [(mFm (mCB dLen (mCons (mVar 0) mNil))), (mC (.str ":")), (mFm (mVar 0)), (mFm (mVar 1))]))
def m_words_of : MF := run 2 b_words_of
def b_Roster_init : MS := (mSeq (mSetF "Roster" "need" (mVar 1) (mVar 0))
    (mSeq (mSetF "Roster" "_houses" mDNew (mVar 0))
    (mSeq (mSetF "Roster" "_strikes" mDNew (mVar 0))
    (mSeq (mSetF "Roster" "_signed" mDNew (mVar 0))
    (mSeq (mSetF "Roster" "_voices" mDNew (mVar 0))
    (mSetF "Roster" "_claims" mDNew (mVar 0)))))))
def m_Roster_init : MF := run 2 b_Roster_init
def b_Roster_houses : MS := (mRet (mCB dDTup (mCons (mFld "Roster" "_houses" (mVar 0)) mNil)))
def m_Roster_houses : MF := run 1 b_Roster_houses
def b_Roster_is_revoked : MS := (mRet (mMet "dict" (gP dGet2) (mFld "Roster" "_houses" (mVar 0)) (mCons (mVar 1) (mCons (mC (.bl false)) mNil))))
def m_Roster_is_revoked : MF := run 2 b_Roster_is_revoked
def b_law_words_of : MS := (mRet (mBin dAdd (mBin dAdd (mBin dAdd (mCB dStr (mCons (mCB dLen (mCons (mVar 0) mNil)) mNil)) (mC (.str ":"))) (mVar 0)) (mVar 1)))
def m_law_words_of : MF := run 2 b_law_words_of
def b_law_due_2 : MS := (mSeq (mIfS (mTst (mBin dEq (mVar 3) (mC (.int 0)))) (mSeq (mIfS (mTst (mBin dIn (mVar 4) (mVar 0))) (mRet (mLst (mCons (mC (.str "duplicate")) mNil))) mNext)
    (mSeq (mIfS (mTst (mBin dEq (mCB dLen (mCons (mVar 0) mNil)) (mC (.int 20)))) (mRet (mLst (mCons (mC (.str "full")) mNil))) mNext)
    (mSeq (mExp (mMet "list" gAppend (mVar 0) (mCons (mVar 4) mNil)))
    (mRet (mC .non))))) mNext)
    (mSeq (mIfS (mTst (mBin dNotIn (mVar 4) (mVar 0))) (mRet (mLst (mCons (mC (.str "unknown")) mNil))) mNext)
    (mSeq (mIfS (mTst (mBin dIn (mVar 4) (mVar 1))) (mRet (mLst (mCons (mC (.str "revoked")) mNil))) mNext)
    (mSeq (mIfS (mTst (mBin dEq (mVar 3) (mC (.int 1)))) (mSeq (mExp (mMet "list" gAppend (mVar 1) (mCons (mVar 4) mNil)))
    (mRet (mC .non))) mNext)
    (mSeq (mAsg (mBin dAdd (mBin dAdd (mVar 4) (mC (.str "-"))) (mCB dStr (mCons (mBin dAdd (mCB dLen (mCons (mVar 2) mNil)) (mC (.int 1))) mNil))) (gNm 6))
    (mSeq (mExp (mMet "list" gAppend (mVar 2) (mCons (mTup (mCons (mVar 6) (mCons (mVar 4) (mCons (mVar 5) mNil)))) mNil)))
    (mRet (mVar 6))))))))
def m_law_due_2 : MF := run 7 b_law_due_2
def b_Roster_counts : MS := (mRet (mAnd (mBin dEq (mMet "dict" (gP dGet1) (mFld "Roster" "_signed" (mVar 0)) (mCons (mVar 1) mNil)) (mTup (mCons (mVar 2) (mCons (mVar 3) mNil)))) (mNot (mMeth "Roster" "is_revoked" Mi.m_Roster_is_revoked (mVar 0) (mCons (mVar 2) mNil)))))
def m_Roster_counts : MF := run 4 b_Roster_counts
def b_Roster_add : MS := (mSeq (mIfS (mTst (mBin dDIn (mVar 1) (mFld "Roster" "_houses" (mVar 0)))) (mRaiseF "RosterProblem" ["reason"] (mCons (mC (.str "duplicate")) mNil)) mNext)
    (mSeq (mIfS (mTst (mBin dEq (mCB dDLen (mCons (mFld "Roster" "_houses" (mVar 0)) mNil)) (mC (.int 20)))) (mRaiseF "RosterProblem" ["reason"] (mCons (mC (.str "full")) mNil)) mNext)
    (mSeq (mDSub (mC (.bl false)) (mFld "Roster" "_houses" (mVar 0)) (mVar 1))
    (mDSub (mC (.int 0)) (mFld "Roster" "_strikes" (mVar 0)) (mVar 1)))))
def m_Roster_add : MF := run 2 b_Roster_add
def b_Roster__check : MS := (mSeq (mIfS (mTst (mBin dDNotIn (mVar 1) (mFld "Roster" "_houses" (mVar 0)))) (mRaiseF "RosterProblem" ["reason"] (mCons (mC (.str "unknown")) mNil)) mNext)
    (mIfS (mTst (mBin dDGet (mFld "Roster" "_houses" (mVar 0)) (mVar 1))) (mRaiseF "RosterProblem" ["reason"] (mCons (mC (.str "revoked")) mNil)) mNext))
def m_Roster__check : MF := run 2 b_Roster__check
def b_law_counted : MS := (mSeq (mAsg (mBin dIx (mLst (mCons (mC (.str "a")) (mCons (mC (.str "b")) (mCons (mC (.str "a-1")) (mCons (mC (.str "b-2")) (mCons (mC (.str "c")) (mCons (mC (.str "a-")) (mCons (mC (.str "aa")) (mCons (mC (.str "c.c")) mNil))))))))) (mCall Mi.m_law_next (mCons (mVar 0) (mCons (mVar 1) (mCons (mC (.int 8)) mNil))))) (gNm 6))
    (mSeq (mAsg (mBin dIx (mVar 5) (mCall Mi.m_law_next (mCons (mVar 0) (mCons (mVar 1) (mCons (mC (.int 6)) mNil))))) (gNm 7))
    (mSeq (mAsg (mBin dAdd (mBin dAdd (mVar 6) (mC (.str "-"))) (mCB dStr (mCons (mCall Mi.m_law_next (mCons (mVar 0) (mCons (mVar 1) (mCons (mC (.int 12)) mNil)))) mNil))) (gNm 8))
    (mSeq (mIfS (mAndT (mTst (mBin dGt (mCB dLen (mCons (mVar 4) mNil)) (mC (.int 0)))) (mTst (mBin dGt (mCall Mi.m_law_next (mCons (mVar 0) (mCons (mVar 1) (mCons (mC (.int 4)) mNil)))) (mC (.int 0))))) (mSeq (mAsg (mBin dIx (mVar 4) (mCall Mi.m_law_next (mCons (mVar 0) (mCons (mVar 1) (mCons (mCB dLen (mCons (mVar 4) mNil)) mNil))))) (gNm 9))
    (mSeq (mAsg (mBin dIx (mVar 9) (mC (.int 0))) (gNm 8))
    (mSeq (mIfS (mTst (mBin dGt (mCall Mi.m_law_next (mCons (mVar 0) (mCons (mVar 1) (mCons (mC (.int 3)) mNil)))) (mC (.int 0)))) (mAsg (mBin dIx (mVar 9) (mC (.int 1))) (gNm 6)) mNext)
    (mIfS (mTst (mBin dGt (mCall Mi.m_law_next (mCons (mVar 0) (mCons (mVar 1) (mCons (mC (.int 3)) mNil)))) (mC (.int 0)))) (mAsg (mBin dIx (mVar 9) (mC (.int 2))) (gNm 7)) mNext)))) mNext)
    (mSeq (mAsg (mAnd (mBin dInD (mTup (mCons (mVar 8) (mCons (mVar 6) (mCons (mVar 7) mNil)))) (mVar 4)) (mBin dNotIn (mVar 6) (mVar 3))) (gNm 10))
    (mSeq (mIfS (mNotT (mTst (mCall Mi.m_law_yes (mCons (mMeth "Roster" "counts" Mi.m_Roster_counts (mVar 2) (mCons (mVar 8) (mCons (mVar 6) (mCons (mVar 7) mNil)))) (mCons (mVar 10) mNil))))) (mRet (mC (.bl false))) mNext)
    (mRet (mCall Mi.m_law_yes (mCons (mMeth "Roster" "is_revoked" Mi.m_Roster_is_revoked (mVar 2) (mCons (mVar 6) mNil)) (mCons (mBin dIn (mVar 6) (mVar 3)) mNil))))))))))
def m_law_counted : MF := run 11 b_law_counted
def b_law_forged : MS := (mSeq (mIfS (mTst (mBin dEq (mCB dLen (mCons (mVar 4) mNil)) (mC (.int 0)))) (mRet (mC (.bl true))) mNext)
    (mSeq (mAsg (mBin dIx (mVar 4) (mCall Mi.m_law_next (mCons (mVar 0) (mCons (mVar 1) (mCons (mCB dLen (mCons (mVar 4) mNil)) mNil))))) (gTp 3 (gsCons (gNm 5) (gsCons (gNm 6) (gsCons (gNm 7) gsNil)))))
    (mSeq (mAsg (mSl (mVar 5) (mPart (mBin dAdd (mCB dLen (mCons (mVar 6) mNil)) (mC (.int 1)))) mNoP) (gNm 8))
    (mSeq (mAsg (mLst (mCons (mBin dAdd (mC (.str "zz-")) (mVar 8)) (mCons (mBin dAdd (mBin dAdd (mVar 6) (mC (.str "-0"))) (mVar 8)) (mCons (mC (.str "")) (mCons (mC (.str "x")) (mCons (mVar 8) (mCons (mBin dAdd (mVar 6) (mVar 8)) (mCons (mBin dAdd (mBin dAdd (mVar 6) (mC (.str "--"))) (mVar 8)) (mCons (mBin dAdd (mBin dAdd (mBin dAdd (mVar 6) (mC (.str "-"))) (mVar 8)) (mC (.str " "))) mNil))))))))) (gNm 9))
    (mSeq (mAsg (mBin dAdd (mVar 9) (mLst (mCons (mMet "str" (gP dUpper) (mVar 5) mNil) (mCons (mBin dAdd (mVar 5) (mC (.str "0"))) (mCons (mSl (mVar 5) (mPart (mC (.int 1))) mNoP) (mCons (mSl (mVar 5) mNoP (mPart (mUn dNeg (mC (.int 1))))) (mCons (mBin dAdd (mVar 6) (mC (.str "-"))) (mCons (mBin dAdd (mBin dAdd (mVar 6) (mC (.str "_"))) (mVar 8)) (mCons (mBin dAdd (mC (.str " ")) (mVar 5)) (mCons (mBin dAdd (mBin dAdd (mVar 6) (mC (.str "-+"))) (mVar 8)) (mCons (mBin dAdd (mVar 5) (mC (.str "\n"))) mNil))))))))))) (gNm 9))
    (mSeq (mFor (mI (mVar 9)) (gNm 10) (mSeq (mAsg (mAnd (mBin dInD (mTup (mCons (mVar 10) (mCons (mVar 6) (mCons (mVar 7) mNil)))) (mVar 4)) (mBin dNotIn (mVar 6) (mVar 3))) (gNm 11))
    (mIfS (mNotT (mTst (mCall Mi.m_law_yes (mCons (mMeth "Roster" "counts" Mi.m_Roster_counts (mVar 2) (mCons (mVar 10) (mCons (mVar 6) (mCons (mVar 7) mNil)))) (mCons (mVar 11) mNil))))) (mRet (mC (.bl false))) mNext)))
    (mRet (mC (.bl true)))))))))
def m_law_forged : MF := run 12 b_law_forged
def b_law_all_counted : MS := (mSeq (mFor (mI (mVar 2)) (gNm 3) (mIfS (mNotT (mTst (mCall Mi.m_law_yes (mCons (mMeth "Roster" "counts" Mi.m_Roster_counts (mVar 0) (mCons (mBin dIx (mVar 3) (mC (.int 0))) (mCons (mBin dIx (mVar 3) (mC (.int 1))) (mCons (mBin dIx (mVar 3) (mC (.int 2))) mNil)))) (mCons (mBin dNotIn (mBin dIx (mVar 3) (mC (.int 1))) (mVar 1)) mNil))))) (mRet (mC (.bl false))) mNext))
    (mRet (mC (.bl true))))
def m_law_all_counted : MF := run 4 b_law_all_counted
def b_Roster_sign : MS := (mSeq (mExp (mMeth "Roster" "_check" Mi.m_Roster__check (mVar 0) (mCons (mVar 1) mNil)))
    (mSeq (mAsg (mJs [(mFm (mVar 1)), (mC (.str "-")), (mFm (mBin dAdd (mCB dDLen (mCons (mFld "Roster" "_signed" (mVar 0)) mNil)) (mC (.int 1))))]) (gNm 3))
    (mSeq (mDSub (mTup (mCons (mVar 1) (mCons (mVar 2) mNil))) (mFld "Roster" "_signed" (mVar 0)) (mVar 3))
    (mRet (mVar 3)))))
def m_Roster_sign : MF := run 4 b_Roster_sign
def b_Roster_revoke : MS := (mSeq (mExp (mMeth "Roster" "_check" Mi.m_Roster__check (mVar 0) (mCons (mVar 1) mNil)))
    (mDSub (mC (.bl true)) (mFld "Roster" "_houses" (mVar 0)) (mVar 1)))
def m_Roster_revoke : MF := run 2 b_Roster_revoke
def b_law_called : MS := (mSeq (mIfS (mTst (mBin dEq (mVar 1) (mC (.int 0)))) (mRet (mMeth "Roster" "add" Mi.m_Roster_add (mVar 0) (mCons (mVar 2) mNil))) mNext)
    (mSeq (mIfS (mTst (mBin dEq (mVar 1) (mC (.int 1)))) (mRet (mMeth "Roster" "revoke" Mi.m_Roster_revoke (mVar 0) (mCons (mVar 2) mNil))) mNext)
    (mRet (mMeth "Roster" "sign" Mi.m_Roster_sign (mVar 0) (mCons (mVar 2) (mCons (mVar 3) mNil))))))
def m_law_called : MF := run 4 b_law_called
def b_law_do : MS := (mTryAs ["RosterProblem"] [] 5 (mSeq (mAsg (mCall Mi.m_law_called (mCons (mVar 0) (mCons (mVar 1) (mCons (mVar 2) (mCons (mVar 3) mNil))))) (gNm 4))
    (mRet (mIf (mTst (mCB dIsi (mCons (mVar 4) (mCons (mC (.ty "list")) mNil)))) (mLst (mCons (mC (.str "a list")) mNil)) (mVar 4)))) (fun _ fs => (mSeq (mIfS (mTst (mC (.bl true))) (mRet (mLst (mCons (mXf fs "reason") mNil))) mNext) (mRet (mLst (mCons (mC (.str "odd")) mNil))))))
def m_law_do : MF := run 6 b_law_do
def b_law_16 : MS := (mSeq (mAsg (mCel (mCons (mC (.int 0)) (mCons (mC (.int 0)) (mCons (mC (.int 1)) mNil)))) (gNm 1))
    (mSeq (mAsg (mBin dAdd (mC (.int 1)) (mCall Mi.m_law_next (mCons (mVar 1) (mCons (mVar 0) (mCons (mC (.int 3)) mNil))))) (gNm 2))
    (mSeq (mAsg (mMake "Roster" Mi.m_Roster_init (mCons (mVar 2) mNil)) (gNm 3))
    (mSeq (mAsg (mCel mNil) (gNm 4))
    (mSeq (mAsg (mCel mNil) (gNm 5))
    (mSeq (mAsg (mCel mNil) (gNm 6))
    (mSeq (mAsg (mLst (mCons (mC (.str "")) (mCons (mC (.str "a")) (mCons (mC (.str "1:ab")) (mCons (mC (.str "11:b")) (mCons (mC (.str "made\nx")) (mCons (mCall Mi.m_law_words (mCons (mVar 1) (mCons (mVar 0) mNil))) mNil))))))) (gNm 7))
    (mSeq (mIfS (mTst (mBin dEq (mCall Mi.m_law_next (mCons (mVar 1) (mCons (mVar 0) (mCons (mC (.int 8)) mNil)))) (mC (.int 0)))) (mFor (mRng rng1 (mCons (mBin dAdd (mC (.int 18)) (mCall Mi.m_law_next (mCons (mVar 1) (mCons (mVar 0) (mCons (mC (.int 5)) mNil))))) mNil)) (gNm 8) (mSeq (mAsg (mCall Mi.m_law_due_2 (mCons (mVar 4) (mCons (mVar 5) (mCons (mVar 6) (mCons (mC (.int 0)) (mCons (mBin dAdd (mC (.str "n")) (mCB dStr (mCons (mVar 8) mNil))) (mCons (mC (.str "")) mNil))))))) (gNm 9))
    (mSeq (mAsg (mCall Mi.m_law_do (mCons (mVar 3) (mCons (mC (.int 0)) (mCons (mBin dAdd (mC (.str "n")) (mCB dStr (mCons (mVar 8) mNil))) (mCons (mC (.str "")) mNil))))) (gNm 10))
    (mIfS (mTst (mBin dNe (mVar 10) (mVar 9))) (mRet (mC (.bl false))) mNext)))) mNext)
    (mSeq (mFor (mRng rng1 (mCons (mCall Mi.m_law_next (mCons (mVar 1) (mCons (mVar 0) (mCons (mBin dIx (mLst (mCons (mC (.int 31)) (mCons (mC (.int 31)) (mCons (mC (.int 100)) mNil)))) (mCall Mi.m_law_next (mCons (mVar 1) (mCons (mVar 0) (mCons (mC (.int 3)) mNil))))) mNil)))) mNil)) (gNm 11) (mSeq (mAsg (mBin dIx (mLst (mCons (mC (.int 0)) (mCons (mC (.int 0)) (mCons (mC (.int 1)) (mCons (mC (.int 2)) (mCons (mC (.int 2)) (mCons (mC (.int 2)) (mCons (mC (.int 2)) (mCons (mC (.int 2)) mNil))))))))) (mCall Mi.m_law_next (mCons (mVar 1) (mCons (mVar 0) (mCons (mC (.int 8)) mNil))))) (gNm 12))
    (mSeq (mAsg (mBin dIx (mLst (mCons (mC (.str "a")) (mCons (mC (.str "b")) (mCons (mC (.str "a-1")) (mCons (mC (.str "b-2")) (mCons (mC (.str "c")) (mCons (mC (.str "a-")) (mCons (mC (.str "aa")) (mCons (mC (.str "c.c")) mNil))))))))) (mCall Mi.m_law_next (mCons (mVar 1) (mCons (mVar 0) (mCons (mC (.int 8)) mNil))))) (gNm 13))
    (mSeq (mAsg (mBin dIx (mVar 7) (mCall Mi.m_law_next (mCons (mVar 1) (mCons (mVar 0) (mCons (mC (.int 6)) mNil))))) (gNm 14))
    (mSeq (mAsg (mCall Mi.m_law_due_2 (mCons (mVar 4) (mCons (mVar 5) (mCons (mVar 6) (mCons (mVar 12) (mCons (mVar 13) (mCons (mVar 14) mNil))))))) (gNm 9))
    (mSeq (mAsg (mCall Mi.m_law_do (mCons (mVar 3) (mCons (mVar 12) (mCons (mVar 13) (mCons (mVar 14) mNil))))) (gNm 10))
    (mSeq (mIfS (mTst (mCB dIsi (mCons (mVar 9) (mCons (mC (.ty "list")) mNil)))) (mIfS (mOrT (mTst (mBin dNe (mVar 10) (mVar 9))) (mNotT (mTst (mCall Mi.m_law_same (mCons (mBin dIx (mVar 10) (mC (.int 0))) (mCons (mBin dIx (mVar 9) (mC (.int 0))) mNil)))))) (mRet (mC (.bl false))) mNext) (mIfS (mNotT (mTst (mCall Mi.m_law_same (mCons (mVar 10) (mCons (mVar 9) mNil))))) (mRet (mC (.bl false))) mNext))
    (mSeq (mIfS (mNotT (mTst (mCall Mi.m_law_same (mCons (mMeth "Roster" "houses" Mi.m_Roster_houses (mVar 3) mNil) (mCons (mCB dTupleOf (mCons (mVar 4) mNil)) mNil))))) (mRet (mC (.bl false))) mNext)
    (mSeq (mIfS (mNotT (mTst (mCall Mi.m_law_counted (mCons (mVar 1) (mCons (mVar 0) (mCons (mVar 3) (mCons (mVar 5) (mCons (mVar 6) (mCons (mVar 7) mNil))))))))) (mRet (mC (.bl false))) mNext)
    (mSeq (mIfS (mNotT (mTst (mCall Mi.m_law_forged (mCons (mVar 1) (mCons (mVar 0) (mCons (mVar 3) (mCons (mVar 5) (mCons (mVar 6) mNil)))))))) (mRet (mC (.bl false))) mNext)
    (mIfS (mAndT (mTst (mBin dEq (mVar 12) (mC (.int 1)))) (mNotT (mTst (mCall Mi.m_law_all_counted (mCons (mVar 3) (mCons (mVar 5) (mCons (mVar 6) mNil))))))) (mRet (mC (.bl false))) mNext)))))))))))
    (mSeq (mIfS (mOrT (mNotT (mTst (mCall Mi.m_law_same (mCons (mMeth "Roster" "houses" Mi.m_Roster_houses (mVar 3) mNil) (mCons (mCB dTupleOf (mCons (mVar 4) mNil)) mNil))))) (mOrT (mNotT (mTst (mCall Mi.m_law_same (mCons (mFld "Roster" "need" (mVar 3)) (mCons (mVar 2) mNil))))) (mNotT (mTst (mCall Mi.m_law_all_counted (mCons (mVar 3) (mCons (mVar 5) (mCons (mVar 6) mNil)))))))) (mRet (mC (.bl false))) mNext)
    (mSeq (mFor (mRng rng1 (mCons (mCall Mi.m_law_next (mCons (mVar 1) (mCons (mVar 0) (mCons (mC (.int 21)) mNil)))) mNil)) (gNm 8) (mIfS (mNotT (mTst (mCall Mi.m_law_counted (mCons (mVar 1) (mCons (mVar 0) (mCons (mVar 3) (mCons (mVar 5) (mCons (mVar 6) (mCons (mVar 7) mNil))))))))) (mRet (mC (.bl false))) mNext))
    (mSeq (mAsg (mCall Mi.m_law_words (mCons (mVar 1) (mCons (mVar 0) mNil))) (gNm 15))
    (mSeq (mAsg (mCall Mi.m_law_words (mCons (mVar 1) (mCons (mVar 0) mNil))) (gNm 16))
    (mRet (mCall Mi.m_law_same (mCons (mCall Mi.m_words_of (mCons (mVar 15) (mCons (mVar 16) mNil))) (mCons (mCall Mi.m_law_words_of (mCons (mVar 15) (mCons (mVar 16) mNil))) mNil)))))))))))))))))
def m_law_16 : MF := run 17 b_law_16
def b_Roster_claim_of : MS := (mRet (mMet "dict" (gP dGet1) (mFld "Roster" "_claims" (mVar 0)) (mCons (mVar 1) mNil)))
def m_Roster_claim_of : MF := run 2 b_Roster_claim_of
def b_Roster_has_voice : MS := (mRet (mBin dDIn (mVar 2) (mMet "dict" (gP dGet2) (mFld "Roster" "_voices" (mVar 0)) (mCons (mVar 1) (mCons mDNew mNil)))))
def m_Roster_has_voice : MF := run 3 b_Roster_has_voice
def b_Roster_vouchers : MS := (mSeq (mIfS (mTst (mBin dDNotIn (mVar 1) (mFld "Roster" "_claims" (mVar 0)))) (mRet (mTup mNil)) mNext)
    (mSeq (mAsg (mBin dDGet (mFld "Roster" "_claims" (mVar 0)) (mVar 1)) (gNm 2))
    (mSeq (mAsg (mBin dDGet (mFld "Roster" "_voices" (mVar 0)) (mVar 1)) (gNm 3))
    (mRet (mCB dTupleOf (mCons (mLokG (gVr 3) (mComp (mIIt (mVar 3)) [4, 5, 6] (gTp 2 (gsCons (gNm 4) (gsCons (gTp 2 (gsCons (gNm 5) (gsCons (gNm 6) gsNil))) gsNil))) (mTst (mBin dEq (mVar 5) (mVar 2))) (mTup (mCons (mVar 4) (mCons (mVar 6) mNil))))) mNil))))))
def m_Roster_vouchers : MF := run 7 b_Roster_vouchers
def b_Roster__tell_again : MS := (mSeq (mIfS (mTst (mBin dEq (mBin dIx (mBin dDGet (mBin dDGet (mFld "Roster" "_voices" (mVar 0)) (mVar 1)) (mVar 2)) (mC (.int 0))) (mVar 3))) (mRet (mC (.str "again"))) mNext)
    (mSeq (mDAug (mFld "Roster" "_strikes" (mVar 0)) (mVar 2) (mC (.int 1)))
    (mRet (mC (.str "changed")))))
def m_Roster__tell_again : MF := run 4 b_Roster__tell_again
def b_Roster__settle : MS := (mSeq (mDSub (mVar 2) (mFld "Roster" "_claims" (mVar 0)) (mVar 1))
    (mSeq (mAsg (mBin dDGet (mFld "Roster" "_voices" (mVar 0)) (mVar 1)) (gNm 3))
    (mLokS (gVr 3) (mFor (mIKy (mVar 3)) (gNm 4) (mIfS (mTst (mBin dNe (mBin dIx (mBin dDGetL (mVar 3) (mVar 4)) (mC (.int 0))) (mVar 2))) (mDAug (mFld "Roster" "_strikes" (mVar 0)) (mVar 4) (mC (.int 1))) mNext)))))
def m_Roster__settle : MF := run 5 b_Roster__settle
def b_law_due_6 : MS := (mSeq (mAsg (mVar 5) (gTp 4 (gsCons (gNm 6) (gsCons (gNm 7) (gsCons (gNm 8) (gsCons (gNm 9) gsNil))))))
    (mSeq (mAsg (mBin dDGet (mVar 0) (mVar 6)) (gNm 10))
    (mSeq (mFor (mI (mVar 10)) (gNm 11) (mIfS (mTst (mBin dEq (mBin dIx (mVar 11) (mC (.int 0))) (mVar 7))) (mSeq (mIfS (mTst (mBin dEq (mBin dIx (mVar 11) (mC (.int 1))) (mVar 8))) (mRet (mC (.str "again"))) mNext)
    (mSeq (mExp (mMet "list" gAppend (mVar 2) (mCons (mVar 7) mNil)))
    (mRet (mC (.str "changed"))))) mNext))
    (mSeq (mExp (mMet "list" gAppend (mVar 10) (mCons (mTup (mCons (mVar 7) (mCons (mVar 8) (mCons (mVar 9) mNil)))) mNil)))
    (mSeq (mIfS (mTst (mBin dDIn (mVar 6) (mVar 1))) (mSeq (mIfS (mTst (mBin dEq (mBin dDGet (mVar 1) (mVar 6)) (mVar 8))) (mRet (mC (.str "alike"))) mNext)
    (mSeq (mExp (mMet "list" gAppend (mVar 2) (mCons (mVar 7) mNil)))
    (mRet (mC (.str "otherwise"))))) mNext)
    (mSeq (mIfS (mTst (mBin dLt (mCB dLen (mCons (mComp (mI (mVar 10)) [11] (gNm 11) (mAndT (mTst (mBin dEq (mBin dIx (mVar 11) (mC (.int 1))) (mVar 8))) (mTst (mBin dNotIn (mBin dIx (mVar 11) (mC (.int 0))) (mVar 3)))) (mC (.int 1))) mNil)) (mVar 4))) (mRet (mC (.str "told"))) mNext)
    (mSeq (mDSub (mVar 8) (mVar 1) (mVar 6))
    (mSeq (mFor (mI (mVar 10)) (gNm 11) (mIfS (mTst (mBin dNe (mBin dIx (mVar 11) (mC (.int 1))) (mVar 8))) (mExp (mMet "list" gAppend (mVar 2) (mCons (mBin dIx (mVar 11) (mC (.int 0))) mNil))) mNext))
    (mRet (mC (.str "settled")))))))))))
def m_law_due_6 : MF := run 12 b_law_due_6
def b_Roster__supporters : MS := (mSeq (mAsg (mBin dDGet (mFld "Roster" "_voices" (mVar 0)) (mVar 1)) (gNm 3))
    (mRet (mLokE 3 (mComp (mIK 3) [4] (gNm 4) (mAndT (mTst (mBin dEq (mBin dIx (mBin dDGetL (mVar 3) (mVar 4)) (mC (.int 0))) (mVar 2))) (mNotT (mTst (mMeth "Roster" "is_revoked" Mi.m_Roster_is_revoked (mVar 0) (mCons (mVar 4) mNil))))) (mVar 4)))))
def m_Roster__supporters : MF := run 5 b_Roster__supporters
def b_Roster_tell : MS := (mSeq (mIfS (mNotT (mTst (mMeth "Roster" "counts" Mi.m_Roster_counts (mVar 0) (mCons (mVar 4) (mCons (mVar 2) (mCons (mCall Mi.m_words_of (mCons (mVar 1) (mCons (mVar 3) mNil))) mNil)))))) (mRet (mC (.str "bad"))) mNext)
    (mSeq (mIfS (mTst (mMeth "Roster" "has_voice" Mi.m_Roster_has_voice (mVar 0) (mCons (mVar 1) (mCons (mVar 2) mNil)))) (mRet (mMeth "Roster" "_tell_again" Mi.m_Roster__tell_again (mVar 0) (mCons (mVar 1) (mCons (mVar 2) (mCons (mVar 3) mNil))))) mNext)
    (mSeq (mAsg (mMeth "Roster" "claim_of" Mi.m_Roster_claim_of (mVar 0) (mCons (mVar 1) mNil)) (gNm 5))
    (mSeq (mAsg (mMet "dict" gSetd (mFld "Roster" "_voices" (mVar 0)) (mCons (mVar 1) (mCons mDNew mNil))) (gNm 6))
    (mSeq (mDSub (mTup (mCons (mVar 3) (mCons (mVar 4) mNil))) (mVar 6) (mVar 2))
    (mSeq (mIfS (mAndT (mTst (mBin dIsNot (mVar 5) (mC .non))) (mTst (mBin dNe (mVar 5) (mVar 3)))) (mSeq (mDAug (mFld "Roster" "_strikes" (mVar 0)) (mVar 2) (mC (.int 1)))
    (mRet (mC (.str "otherwise")))) mNext)
    (mSeq (mIfS (mTst (mBin dIsNot (mVar 5) (mC .non))) (mRet (mC (.str "alike"))) mNext)
    (mSeq (mIfS (mTst (mBin dLt (mCB dLen (mCons (mMeth "Roster" "_supporters" Mi.m_Roster__supporters (mVar 0) (mCons (mVar 1) (mCons (mVar 3) mNil))) mNil)) (mFld "Roster" "need" (mVar 0)))) (mRet (mC (.str "told"))) mNext)
    (mSeq (mExp (mMeth "Roster" "_settle" Mi.m_Roster__settle (mVar 0) (mCons (mVar 1) (mCons (mVar 3) mNil))))
    (mRet (mC (.str "settled"))))))))))))
def m_Roster_tell : MF := run 7 b_Roster_tell
def b_Roster_strikes : MS := (mSeq (mIfS (mTst (mBin dDNotIn (mVar 1) (mFld "Roster" "_houses" (mVar 0)))) (mRaiseF "RosterProblem" ["reason"] (mCons (mC (.str "unknown")) mNil)) mNext)
    (mRet (mBin dDGet (mFld "Roster" "_strikes" (mVar 0)) (mVar 1))))
def m_Roster_strikes : MF := run 2 b_Roster_strikes
def b_law_houses : MS := (mSeq (mAsg (mComp (mRng rng1 (mCons (mVar 1) mNil)) [4] (gNm 4) mYes (mBin dAdd (mC (.str "h")) (mCB dStr (mCons (mVar 4) mNil)))) (gNm 2))
    (mSeq (mFor (mI (mVar 2)) (gNm 3) (mExp (mMeth "Roster" "add" Mi.m_Roster_add (mVar 0) (mCons (mVar 3) mNil))))
    (mRet (mVar 2))))
def m_law_houses : MF := run 5 b_law_houses
def b_law_told_6 : MS := (mSeq (mLokS (gVr 1) (mFor (mIKy (mVar 1)) (gNm 5) (mSeq (mAsg (mMet "dict" (gP dGet2) (mVar 2) (mCons (mVar 5) (mCons (mC .non) mNil))) (gNm 6))
    (mSeq (mIfS (mNotT (mTst (mCall Mi.m_law_same (mCons (mMeth "Roster" "claim_of" Mi.m_Roster_claim_of (mVar 0) (mCons (mVar 5) mNil)) (mCons (mVar 6) mNil))))) (mRet (mC (.bl false))) mNext)
    (mSeq (mAsg (mTup mNil) (gNm 7))
    (mSeq (mIfS (mTst (mBin dIsNot (mVar 6) (mC .non))) (mAsg (mCB dTupleOf (mCons (mComp (mI (mBin dDGetL (mVar 1) (mVar 5))) [11] (gNm 11) (mTst (mBin dEq (mBin dIx (mVar 11) (mC (.int 1))) (mVar 6))) (mTup (mCons (mBin dIx (mVar 11) (mC (.int 0))) (mCons (mBin dIx (mVar 11) (mC (.int 2))) mNil)))) mNil)) (gNm 7)) mNext)
    (mSeq (mIfS (mNotT (mTst (mCall Mi.m_law_same (mCons (mMeth "Roster" "vouchers" Mi.m_Roster_vouchers (mVar 0) (mCons (mVar 5) mNil)) (mCons (mVar 7) mNil))))) (mRet (mC (.bl false))) mNext)
    (mFor (mI (mVar 4)) (gNm 8) (mSeq (mAsg (mBin dIn (mVar 8) (mComp (mI (mBin dDGetL (mVar 1) (mVar 5))) [11] (gNm 11) mYes (mBin dIx (mVar 11) (mC (.int 0))))) (gNm 9))
    (mIfS (mNotT (mTst (mCall Mi.m_law_yes (mCons (mMeth "Roster" "has_voice" Mi.m_Roster_has_voice (mVar 0) (mCons (mVar 5) (mCons (mVar 8) mNil))) (mCons (mVar 9) mNil))))) (mRet (mC (.bl false))) mNext))))))))))
    (mSeq (mFor (mI (mVar 4)) (gNm 8) (mIfS (mNotT (mTst (mCall Mi.m_law_same (mCons (mMeth "Roster" "strikes" Mi.m_Roster_strikes (mVar 0) (mCons (mVar 8) mNil)) (mCons (mMet "list" (gP dCntT) (mVar 3) (mCons (mVar 8) mNil)) mNil))))) (mRet (mC (.bl false))) mNext))
    (mSeq (mTryAs ["RosterProblem"] [] 10 (mExp (mMeth "Roster" "strikes" Mi.m_Roster_strikes (mVar 0) (mCons (mC (.str "nobody")) mNil))) (fun _ fs => (mRet (mCall Mi.m_law_same (mCons (mXf fs "reason") (mCons (mC (.str "unknown")) mNil))))))
    (mRet (mC (.bl false))))))
def m_law_told_6 : MF := run 12 b_law_told_6
def b_law_31 : MS := (mSeq (mAsg (mCel (mCons (mC (.int 0)) (mCons (mC (.int 0)) (mCons (mC (.int 1)) mNil)))) (gNm 1))
    (mSeq (mAsg (mBin dAdd (mC (.int 1)) (mCall Mi.m_law_next (mCons (mVar 1) (mCons (mVar 0) (mCons (mC (.int 3)) mNil))))) (gNm 2))
    (mSeq (mAsg (mMake "Roster" Mi.m_Roster_init (mCons (mVar 2) mNil)) (gNm 3))
    (mSeq (mAsg (mCall Mi.m_law_houses (mCons (mVar 3) (mCons (mC (.int 5)) mNil))) (gNm 4))
    (mSeq (mAsg (mDisp ["t", "u", "made\n"] [(mCel mNil), (mCel mNil), (mCel mNil)]) (gNm 5))
    (mSeq (mAsg (mLst (mCons (mC (.str "t")) (mCons (mC (.str "u")) (mCons (mC (.str "made\n")) mNil)))) (gNm 6))
    (mSeq (mAsg mDNew (gNm 7))
    (mSeq (mAsg (mCel mNil) (gNm 8))
    (mSeq (mAsg (mCel mNil) (gNm 9))
    (mSeq (mAsg (mCel mNil) (gNm 10))
    (mSeq (mFor (mRng rng1 (mCons (mCall Mi.m_law_next (mCons (mVar 1) (mCons (mVar 0) (mCons (mC (.int 41)) mNil)))) mNil)) (gNm 11) (mSeq (mAsg (mBin dIx (mVar 6) (mCall Mi.m_law_next (mCons (mVar 1) (mCons (mVar 0) (mCons (mC (.int 3)) mNil))))) (gNm 12))
    (mSeq (mAsg (mBin dIx (mVar 4) (mCall Mi.m_law_next (mCons (mVar 1) (mCons (mVar 0) (mCons (mC (.int 5)) mNil))))) (gNm 13))
    (mSeq (mAsg (mBin dIx (mLst (mCons (mC (.str "x")) (mCons (mC (.str "y")) (mCons (mC (.str "")) mNil)))) (mCall Mi.m_law_next (mCons (mVar 1) (mCons (mVar 0) (mCons (mC (.int 3)) mNil))))) (gNm 14))
    (mSeq (mAsg (mCall Mi.m_law_next (mCons (mVar 1) (mCons (mVar 0) (mCons (mC (.int 12)) mNil)))) (gNm 15))
    (mSeq (mIfS (mAndT (mTst (mBin dEq (mVar 15) (mC (.int 0)))) (mTst (mBin dNotIn (mVar 13) (mVar 9)))) (mSeq (mExp (mMeth "Roster" "revoke" Mi.m_Roster_revoke (mVar 3) (mCons (mVar 13) mNil)))
    (mExp (mMet "list" gAppend (mVar 9) (mCons (mVar 13) mNil)))) mNext)
    (mSeq (mAsg (mC (.str "h0-1")) (gNm 16))
    (mSeq (mIfS (mAndT (mTst (mBin dLt (mVar 15) (mC (.int 3)))) (mTst (mBin dGt (mCB dLen (mCons (mVar 10) mNil)) (mC (.int 0))))) (mAsg (mBin dIx (mBin dIx (mVar 10) (mCall Mi.m_law_next (mCons (mVar 1) (mCons (mVar 0) (mCons (mCB dLen (mCons (mVar 10) mNil)) mNil))))) (mC (.int 0))) (gNm 16)) (mIfS (mTst (mBin dEq (mVar 15) (mC (.int 3)))) (mAsg (mBin dIx (mLst (mCons (mBin dAdd (mBin dAdd (mVar 13) (mC (.str "-"))) (mCB dStr (mCons (mBin dAdd (mCB dLen (mCons (mVar 10) mNil)) (mC (.int 2))) mNil))) (mCons (mC (.str "")) (mCons (mC (.str "x")) (mCons (mBin dAdd (mVar 13) (mC (.str "-01"))) (mCons (mVar 13) (mCons (mBin dAdd (mVar 13) (mC (.str "-0"))) mNil))))))) (mCall Mi.m_law_next (mCons (mVar 1) (mCons (mVar 0) (mCons (mC (.int 6)) mNil))))) (gNm 16)) (mIfS (mTst (mBin dNotIn (mVar 13) (mVar 9))) (mSeq (mAsg (mMeth "Roster" "sign" Mi.m_Roster_sign (mVar 3) (mCons (mVar 13) (mCons (mCall Mi.m_law_words_of (mCons (mVar 12) (mCons (mVar 14) mNil))) mNil))) (gNm 16))
    (mSeq (mExp (mMet "list" gAppend (mVar 10) (mCons (mTup (mCons (mVar 16) (mCons (mVar 13) (mCons (mVar 12) (mCons (mVar 14) mNil))))) mNil)))
    (mIfS (mNotT (mTst (mCall Mi.m_law_same (mCons (mVar 16) (mCons (mBin dAdd (mBin dAdd (mVar 13) (mC (.str "-"))) (mCB dStr (mCons (mCB dLen (mCons (mVar 10) mNil)) mNil))) mNil))))) (mRet (mC (.bl false))) mNext))) mNext)))
    (mSeq (mAsg (mC (.str "bad")) (gNm 17))
    (mSeq (mIfS (mAndT (mTst (mBin dInD (mTup (mCons (mVar 16) (mCons (mVar 13) (mCons (mVar 12) (mCons (mVar 14) mNil))))) (mVar 10))) (mTst (mBin dNotIn (mVar 13) (mVar 9)))) (mAsg (mCall Mi.m_law_due_6 (mCons (mVar 5) (mCons (mVar 7) (mCons (mVar 8) (mCons (mVar 9) (mCons (mVar 2) (mCons (mTup (mCons (mVar 12) (mCons (mVar 13) (mCons (mVar 14) (mCons (mVar 16) mNil))))) mNil))))))) (gNm 17)) mNext)
    (mSeq (mIfS (mNotT (mTst (mCall Mi.m_law_same (mCons (mMeth "Roster" "tell" Mi.m_Roster_tell (mVar 3) (mCons (mVar 12) (mCons (mVar 13) (mCons (mVar 14) (mCons (mVar 16) mNil))))) (mCons (mVar 17) mNil))))) (mRet (mC (.bl false))) mNext)
    (mIfS (mAndT (mTst (mBin dEq (mBin dMod (mVar 11) (mC (.int 8))) (mC (.int 0)))) (mNotT (mTst (mCall Mi.m_law_told_6 (mCons (mVar 3) (mCons (mVar 5) (mCons (mVar 7) (mCons (mVar 8) (mCons (mVar 4) mNil))))))))) (mRet (mC (.bl false))) mNext))))))))))))
    (mRet (mCall Mi.m_law_told_6 (mCons (mVar 3) (mCons (mVar 5) (mCons (mVar 7) (mCons (mVar 8) (mCons (mVar 4) mNil))))))))))))))))))
def m_law_31 : MF := run 18 b_law_31
end
end Mi

set_option Elab.async false
set_option linter.all false
set_option autoImplicit false
set_option maxRecDepth 100000
set_option maxHeartbeats 2000000
namespace Vi
open PySem PySem.Spec PyProof.Rows L2
open scoped Classical
/-! ### steps: dicts, objects -/
section
variable {h : Hap} {env : Env} {Q : Ps}
theorem x_dnew {P : D → Hap → Prop} (p : P (.ref h.length) (h ++ [.dct []])) : Sat (mDNew env h) P := p
theorem s_dsub' {a o i : ME} (s : Sat (a env h) fun d h1 => Sat (o env h1) fun od h2 => Sat (i env h2) fun id h3 => ∃ h4, sDix od id d h3 = some h4 ∧ Q.n env h4) : SatS (mDSub a o i env h) Q := SatS.of (s.mono fun _ _ s => SatS.of (s.mono fun _ _ s => SatS.of (s.mono fun _ _ ⟨h4, q, p⟩ => by
  rw [q]
  exact p)))
theorem s_seqD {a o i : ME} {b : MS} (s : SatS (mDSub a o i env h) ⟨fun e h1 => SatS (b e h1) Q, Q.r, Q.b, Q.c⟩) : SatS (mSeq (mDSub a o i) b env h) Q := s_seq s
theorem s_ddel' {o i : ME} (s : Sat (o env h) fun od h2 => Sat (i env h2) fun id h3 => ∃ j k kvs, od = .ref j ∧ keyD id = some k ∧ h3[j]? = some (.dct kvs) ∧ (valD kvs k).isSome = true ∧ Q.n env (h3.set j (.dct (dropD kvs k)))) : SatS (mDDel o i env h) Q := SatS.of (s.mono fun _ _ s => SatS.of (s.mono fun _ _ ⟨j, k, kvs, e1, e2, e3, e4, p⟩ => by
  subst e1
  rw [e2]
  simp only []
  rw [e3]
  simp only []
  rw [if_pos e4]
  exact p))
theorem s_seqL {o i : ME} {b : MS} (s : SatS (mDDel o i env h) ⟨fun e h1 => SatS (b e h1) Q, Q.r, Q.b, Q.c⟩) : SatS (mSeq (mDDel o i) b env h) Q := s_seq s
theorem x_sortIt {a : ME} {P : D → Hap → Prop} (s : Sat (a env h) fun x h1 => Sat (ofO (dSortIt [x] h1) h1) P) : Sat (mSortIt a env h) P := Sat.bind s
theorem x_fld {c f : Str} {o : ME} {P : D → Hap → Prop} (s : Sat (o env h) fun x h1 => Sat (ofO (fldD c f x h1) h1) P) : Sat (mFld c f o env h) P := Sat.bind s
theorem x_meth {c nm : Str} {m : MF} {o : ME} {a : MA} {P : D → Hap → Prop} (s : Sat (o env h) fun x h1 => isI c nm x h1 = true ∧ Sat (a env h1) fun xs h2 => Sat (m (x :: xs) h2) P) : Sat (mMeth c nm m o a env h) P := Sat.bind (s.mono fun _ _ s => by
  rw [if_pos s.1]
  exact Sat.bind s.2)
theorem x_make {c : Str} {m : MF} {a : MA} {P : D → Hap → Prop} (s : Sat (a env h) fun xs h1 => Sat (m (.ref h1.length :: xs) (h1 ++ [.ins c []])) fun r h2 => r = .non ∧ P (.ref h1.length) h2) : Sat (mMake c m a env h) P := Sat.bind (s.mono fun xs h1 s => by
  obtain ⟨r, h2, e, rfl, p⟩ := s.ex
  rw [e]
  exact p)
theorem s_setF' {c f : Str} {a o : ME} (s : Sat (a env h) fun d h1 => Sat (o env h1) fun od h2 => ∃ i fs, od = .ref i ∧ h2[i]? = some (.ins c fs) ∧ fs.length < 1000 ∧ Q.n env (h2.set i (.ins c (putFD f d fs)))) : SatS (mSetF c f a o env h) Q := SatS.of (s.mono fun _ _ s => SatS.of (s.mono fun _ h2 ⟨i, fs, e1, e2, e3, p⟩ => by
  subst e1
  show SatS (match h2[i]? with | some (.ins c' fs) => if c' = c ∧ fs.length < 1000 then _ else _ | _ => _) _
  rw [e2]
  show SatS (if c = c ∧ fs.length < 1000 then _ else _) _
  rw [if_pos ⟨rfl, e3⟩]
  exact p))
theorem s_seqF {c f : Str} {a o : ME} {b : MS} (s : SatS (mSetF c f a o env h) ⟨fun e h1 => SatS (b e h1) Q, Q.r, Q.b, Q.c⟩) : SatS (mSeq (mSetF c f a o) b env h) Q := s_seq s
theorem ins_at {i : Nat} {c : Str} {fs : List (Str × D)} (e : h[i]? = some (.ins c fs)) : insOf (.ref i) h = some (c, fs) := by
  unfold insOf
  simp only []
  rw [e]
theorem dct_at {i : Nat} {kvs : List (Key × D)} (e : h[i]? = some (.dct kvs)) : getD (.ref i) h = some kvs := by
  unfold getD
  simp only []
  rw [e]
theorem fld_at {i : Nat} {c f : Str} {fs : List (Str × D)} {d : D} (e : h[i]? = some (.ins c fs)) (l : fs.lookup f = some d) : fldD c f (.ref i) h = some d := by
  unfold fldD
  rw [ins_at e]
  show (if c = c then fs.lookup f else none) = some d
  rw [if_pos rfl, l]
theorem isI_at {i : Nat} {c nm : Str} {fs : List (Str × D)} (e : h[i]? = some (.ins c fs)) (l : fs.lookup nm = none) : isI c nm (.ref i) h = true := by
  unfold isI
  rw [ins_at e]
  simp [l]
theorem isd_at {i : Nat} {kvs : List (Key × D)} (e : h[i]? = some (.dct kvs)) : isT "dict" (.ref i) h = true := by
  unfold isT
  simp only []
  rw [e]
  rfl
end
end Vi

set_option Elab.async false
set_option linter.all false
set_option autoImplicit false
set_option maxRecDepth 100000
set_option maxHeartbeats 1000000
namespace Vi
open PySem PySem.Spec PyProof.Rows L2
open scoped Classical
local macro_rules | `(tactic| walk_at "x1") => `(tactic| with_reducible first
  | refine x_bin ?_ | refine x_tst ?_ | refine x_oB ?_ | refine x_c ?_ | refine s_seqA ?_ | refine s_seqU ?_ | refine s_seqE ?_ | refine s_seqN ?_ | refine s_asg' ?_ | refine s_if' ?_ | refine s_ret' ?_ | refine s_exp' ?_ | refine s_next ?_ | refine s_retN' ?_ | refine s_sub' ?_
  | refine x_cb ?_ | refine x_cons ?_ | refine x_nil ?_ | refine x_call ?_ | refine x_met ?_ | refine x_un ?_ | refine x_notT ?_ | refine x_andT ?_ | refine x_orT ?_ | refine x_and ?_ | refine x_or ?_ | refine x_not ?_ | refine x_if ?_
  | refine x_tup ?_ | refine x_lst ?_ | refine x_cel ?_ | refine x_sl ?_ | refine x_noP ?_ | refine x_part ?_ | refine x_oI ?_ | refine x_mI ?_ | refine x_rng ?_ | refine x_yes ?_ | refine x_fun ?_ | refine x_ok ?_)
local macro_rules | `(tactic| walk_at "x2") => `(tactic| first
  | ((with_reducible refine y_var ?_); refine ⟨_, rfl, ?_⟩)
  | ((with_reducible refine y_some ?_); refine ⟨_, rfl, ?_⟩)
  | ((with_reducible refine y_gP ?_); refine ⟨_, rfl, ?_⟩))
local macro_rules | `(tactic| walk_at "x3") => `(tactic| first
  | ((with_reducible refine v_mod ?_ ?_); (first | decide | omega))
  | ((with_reducible refine v_pow ?_ ?_); exact ⟨by decide, by decide, by decide⟩))
local macro_rules | `(tactic| walk_at "x") => `(tactic| repeat (first | walk_at "x1" | walk_at "x2" | walk_at "x3" ))
/-! ### the drawing of numbers -/
def stc (a b c : Int) : Cel := .lst [.int a, .int b, .int c]
/-- the state of the draws stands in the first cell, t behind it -/
def St (t h : Hap) : Prop := ∃ a b c, h = stc a b c :: t ∧ 0 ≤ a ∧ 0 ≤ c ∧ c < 2147483647
abbrev scr (ns : List Int) : D := .klst (ns.map .int)
theorem next_ok {t h : Hap} {ns : List Int} {many : Int} (hs : St t h) (hm : 0 < many) (hm2 : many < 1000000) (hn : ns.length ≤ 63) : Sat (Mi.m_law_next [.ref 0, scr ns, .int many] h) fun d h' => ∃ r, d = .int r ∧ 0 ≤ r ∧ r < many ∧ St t h' := by
  obtain ⟨a, b, c, rfl, ha, hc, hc2⟩ := hs
  have hd : CDivN b many := ⟨by omega, by omega⟩
  have fm : ∀ i : Int, 0 ≤ i.fmod many ∧ i.fmod many < many := fun i => ⟨Int.fmod_nonneg_of_pos i hm, Int.fmod_lt_of_pos i hm⟩
  unfold Mi.m_law_next Mi.b_law_next
  walk_at "x"
  refine s_seq ?_
  walk_at "x"
  refine ⟨fun _ => ?_, fun _ => ?_⟩
  · walk_at "x"
    refine v_div hd ?_
    walk_at "x"
    refine ⟨_, rfl, ?_⟩
    walk_at "x"
    exact ⟨_, rfl, (fm b).1, (fm b).2, a, _, c, rfl, ha, hc, hc2⟩
  walk_at "x"
  refine s_cut (fun e h => ∃ cell : Int, e = [some (.ref 0), some (scr ns), some (.int many), none, some (.int cell)] ∧ h = stc a b c :: t ∧ 0 ≤ cell) ?_ ?_
  · walk_at "x"
    refine ⟨fun e => ?_, fun _ => ?_⟩
    · walk_at "x"
      have hl : a < (ns.map D.int).length := by simpa using e
      obtain ⟨d, e1, e2, _⟩ := atI_ok (xs := ns.map D.int) ha hl
      obtain ⟨v, _, rfl⟩ := List.mem_map.mp e2
      refine x_some (d := .int v) (by show atI _ a = _; exact e1) ?_
      walk_at "x"
      exact ⟨_, rfl, rfl, by split <;> omega⟩
    · walk_at "x"
      exact ⟨0, rfl, rfl, Int.le_refl _⟩
  rintro _ _ ⟨cell, rfl, rfl, h0⟩
  walk_at "x"
  refine ⟨_, rfl, ?_⟩
  refine s_seq ?_
  walk_at "x"
  refine ⟨fun _ => ?_, fun _ => ?_⟩
  · walk_at "x"
    refine v_div ⟨by omega, by omega⟩ ?_
    walk_at "x"
    refine ⟨_, rfl, ?_⟩
    walk_at "x"
    exact ⟨_, rfl, (fm cell).1, (fm cell).2, a + 1, _, c, rfl, by omega, hc, hc2⟩
  walk_at "x"
  refine v_mul (.inr ⟨by decide, by decide⟩) ?_
  walk_at "x"
  refine v_mul (.inr ⟨by decide, by decide⟩) ?_
  walk_at "x"
  refine ⟨_, rfl, ?_⟩
  walk_at "x"
  have f0 : ∀ i : Int, 0 ≤ i.fmod 2147483647 ∧ i.fmod 2147483647 < 2147483647 := fun i => ⟨Int.fmod_nonneg_of_pos i (by decide), Int.fmod_lt_of_pos i (by decide)⟩
  generalize hz : (c * 48271 + cell * 69621 + 12345).fmod 2147483647 = z
  have hz0 := f0 (c * 48271 + cell * 69621 + 12345)
  rw [hz] at hz0
  refine v_div ⟨by decide, by decide⟩ ?_
  walk_at "x"
  refine v_mul (.inl ⟨by omega, by omega⟩) ?_
  walk_at "x"
  refine v_div ⟨by decide, by decide⟩ ?_
  walk_at "x"
  exact ⟨_, rfl, (fm _).1, (fm _).2, a + 1, b, z, rfl, by omega, hz0.1, hz0.2⟩
theorem next_k {t h : Hap} {ns : List Int} {many : Int} {P : D → Hap → Prop} (hs : St t h) (hn : ns.length ≤ 63) (hm : 0 < many) (hm2 : many < 1000000) (k : ∀ r h', 0 ≤ r → r < many → St t h' → P (.int r) h') : Sat (Mi.m_law_next [.ref 0, scr ns, .int many] h) P :=
  (next_ok hs hm hm2 hn).mono fun d h' ⟨r, e, a, b, c⟩ => by
    subst e
    exact k r h' a b c
local macro_rules | `(tactic| walk_at "nx") => `(tactic| (refine next_k (by assumption) (by assumption) (by first | decide | omega) (by first | decide | omega) ?_))
theorem len_app (x y : Str) : (x ++ y).length = x.length + y.length := by
  show (x.cps ++ y.cps).size = _
  rw [Array.size_append]
  rfl
theorem len_ch (c : Nat) : (ch c).length = 1 := rfl
theorem len_list (z : Str) : z.cps.toList.length = z.length := Array.length_toList
theorem len_cutS (z : Str) (l u : Option Int) : (cutS z l u).length ≤ z.length := by
  show (List.toArray _).size ≤ _
  rw [List.size_toArray, List.length_take, List.length_drop, len_list]
  omega
theorem len_rep (z : Str) (n : Nat) : Str.length ⟨(List.replicate n z.cps.toList).flatten.toArray⟩ = n * z.length := by
  show (List.toArray _).size = _
  rw [List.size_toArray]
  induction n with
  | zero => simp
  | succ n ih => rw [List.replicate_succ, List.flatten_cons, List.length_append, ih, len_list, Nat.succ_mul, Nat.add_comm]
theorem len_join : ∀ (a : Str) (ys : List Str) (m : Nat), (∀ y ∈ ys, y.length ≤ m) → (ys.map (·.length)).sum + ys.length * a.length ≤ ys.length * (m + a.length) := by
  intro a ys m h
  induction ys with
  | nil => simp
  | cons y ys ih =>
    have h1 := h y List.mem_cons_self
    have h2 := ih fun z hz => h z (List.mem_cons_of_mem _ hz)
    simp only [List.map_cons, List.sum_cons, List.length_cons, Nat.succ_mul] at *
    omega
section
variable {t h : Hap} {ns : List Int}
theorem segment_ok (hs : St t h) (hn : ns.length ≤ 63) : Sat (Mi.m_law_segment [.ref 0, scr ns] h) fun d h' => ∃ z, d = .str z ∧ z.length ≤ 20 ∧ 1 ≤ z.length ∧ St t h' := by
  unfold Mi.m_law_segment Mi.b_law_segment
  walk_at "x"
  walk_at "nx"
  intro r0 h0 a0 b0 s0
  walk_at "x"
  refine s_cut (fun e h => ∃ size : Int, e = [some (.ref 0), some (scr ns), some (.str "abcdefghijklmnopqrstuvwxyz0123456789"), some (.str ("abcdefghijklmnopqrstuvwxyz0123456789" ++ "_-.")), some (.int size), none, none] ∧ 1 ≤ size ∧ size ≤ 20 ∧ St t h) ?_ ?_
  · walk_at "x"
    refine ⟨fun e => ?_, fun e => ?_⟩
    · walk_at "x"
      walk_at "nx"
      intro r1 h1 a1 b1 s1
      walk_at "x"
      exact ⟨_, rfl, by omega, by omega, s1⟩
    · walk_at "x"
      exact ⟨_, rfl, by omega, by omega, s0⟩
  rintro _ h1 ⟨size, rfl, q0, q1, s1⟩
  walk_at "x"
  walk_at "nx"
  intro r2 h2 a2 b2 s2
  obtain ⟨c, e1, _, _⟩ := atI_ok (xs := ("abcdefghijklmnopqrstuvwxyz0123456789" : Str).cps.toList) a2 (by rw [len_list]; exact b2)
  refine v_ixS (sl_le (by decide)) e1 ?_
  walk_at "x"
  refine s_seq (s_forI (fun pre post e h => ∃ z k, e = [some (.ref 0), some (scr ns), some (.str "abcdefghijklmnopqrstuvwxyz0123456789"), some (.str ("abcdefghijklmnopqrstuvwxyz0123456789" ++ "_-.")), some (.int size), some (.str z), k] ∧ z.length = 1 + pre.length ∧ St t h) ?_)
  walk_at "x"
  refine x_rng1 (by omega) ⟨⟨_, _, rfl, rfl, s2⟩, fun _ _ _ _ _ _ => trivial, ?_, ?_⟩
  · rintro pre x post e h3 hx ⟨z, k, rfl, hz, s3⟩
    have hl := congrArg List.length hx
    simp only [rngL, List.length_map, List.length_range, List.length_append, List.length_cons] at hl
    refine ⟨_, rfl, ?_⟩
    walk_at "x"
    walk_at "nx"
    intro r4 h4 a4 b4 s4
    obtain ⟨c, e1, _, _⟩ := atI_ok (xs := ("abcdefghijklmnopqrstuvwxyz0123456789" ++ "_-." : Str).cps.toList) a4 (by rw [len_list]; exact b4)
    refine v_ixS (sl_le (by decide)) e1 ?_
    refine v_adds (sl_le (by rw [len_ch]; omega)) ?_
    exact ⟨_, _, rfl, by rw [len_app, len_ch, hz, List.length_append, List.length_singleton]; omega, s4⟩
  · rintro e h3 ⟨z, k, rfl, hz, s3⟩
    have hl : (rngL 0 (size - 1).toNat).length = (size - 1).toNat := by simp [rngL]
    have hz : z.length = 1 + (rngL 0 (size - 1).toNat).length := hz
    walk_at "x"
    exact ⟨z, rfl, by omega, by omega, s3⟩
theorem part_ok (hs : St t h) (hn : ns.length ≤ 63) : Sat (Mi.m_law_part [.ref 0, scr ns] h) fun d h' => ∃ z, d = .str z ∧ z.length ≤ 20 ∧ 1 ≤ z.length ∧ St t h' := by
  unfold Mi.m_law_part Mi.b_law_part
  walk_at "x"
  walk_at "nx"
  intro r0 h0 a0 b0 s0
  refine s_seq ?_
  walk_at "x"
  refine ⟨fun e => ?_, fun e => ?_⟩
  · have e : r0 < 5 := by simpa using e
    walk_at "x"
    refine ⟨sl_le (by decide), ?_⟩
    walk_at "x"
    obtain ⟨d, e1, m, _⟩ := atI_ok (xs := [D.str "a", .str "b", .str "ab", .str "a.b", .str "build"]) a0 e
    refine x_some (d := d) e1 ?_
    simp only [List.mem_cons, List.not_mem_nil, or_false] at m
    rcases m with rfl | rfl | rfl | rfl | rfl
    all_goals exact ⟨_, rfl, by decide, by decide, s0⟩
  · walk_at "x"
    exact segment_ok s0 hn
theorem segment_k {P : D → Hap → Prop} (hs : St t h) (hn : ns.length ≤ 63) (k : ∀ z h', z.length ≤ 20 → 1 ≤ z.length → St t h' → P (.str z) h') : Sat (Mi.m_law_segment [.ref 0, scr ns] h) P :=
  (segment_ok hs hn).mono fun d h' ⟨z, e, a, b, c⟩ => by
    subst e
    exact k z h' a b c
theorem part_k {P : D → Hap → Prop} (hs : St t h) (hn : ns.length ≤ 63) (k : ∀ z h', z.length ≤ 20 → 1 ≤ z.length → St t h' → P (.str z) h') : Sat (Mi.m_law_part [.ref 0, scr ns] h) P :=
  (part_ok hs hn).mono fun d h' ⟨z, e, a, b, c⟩ => by
    subst e
    exact k z h' a b c
/-- "/".join of some parts -/
theorem parts_k {n : Nat} {env : Env} {P : D → Hap → Prop} {i : Nat} (hs : St t h) (hn : ns.length ≤ 63) (hn2 : n ≤ 1000) (e0 : (env.set i none)[0]? = some (some (.ref 0))) (e1 : (env.set i none)[1]? = some (some (scr ns))) (n0 : 0 ≠ i) (n1 : 1 ≠ i)
    (src : MI) (hsrc : ∀ P' : List D × (Hap → Prop) → Hap → Prop, P' (rngL 0 n, fun _ => True) h → Sat (src env h) P')
    (k : ∀ z h', z.length ≤ n * 21 → St t h' → P (.str z) h') : Sat (mComp src [i] (gNm i) mYes (mCall Mi.m_law_part (mCons (mVar 0) (mCons (mVar 1) mNil))) env h) fun d h1 => Sat (gP dJoin (.str "/") [d] h1) P := by
  refine x_compI (fun pre post h acc => ∃ ys : List Str, acc = ys.map .str ∧ ys.length = pre.length ∧ (∀ y ∈ ys, y.length ≤ 20) ∧ St t h) (hsrc _ ⟨⟨[], rfl, rfl, by simp, hs⟩, fun _ _ _ _ _ _ => trivial, ?_, ?_⟩)
  · rintro pre x post h1 acc hx ⟨ys, rfl, hl, hy, s1⟩
    have hq := congrArg List.length hx
    simp only [rngL, List.length_map, List.length_range, List.length_append, List.length_cons] at hq
    refine ⟨_, rfl, x_yes ⟨fun _ => ⟨?_, ?_⟩, fun z => nomatch z⟩⟩
    · rw [sizeLine_eq, List.length_map]; omega
    · refine x_call (x_cons (x_var (d := .ref 0) ?_ (x_cons (x_var (d := scr ns) ?_ (x_nil (part_k s1 hn ?_))))))
      · show ((env.set i none).set i _)[0]? = _
        rw [List.getElem?_set_ne (Ne.symm n0)]; exact e0
      · show ((env.set i none).set i _)[1]? = _
        rw [List.getElem?_set_ne (Ne.symm n1)]; exact e1
      · intro z h2 z1 z2 s2
        exact ⟨ys ++ [z], by simp, by simp [hl], fun y m => by
          simp only [List.mem_append, List.mem_singleton] at m
          rcases m with m | rfl
          · exact hy y m
          · exact z1, s2⟩
  · rintro h1 acc ⟨ys, rfl, hl, hy, s1⟩
    have hl : ys.length = (rngL 0 n).length := hl
    have hq : (rngL 0 n).length = n := by simp [rngL]
    have hj := len_join "/" ys 20 hy
    have h1' : Str.length "/" = 1 := by decide
    rw [h1'] at hj
    have hj2 := StrLaws.join_length_le "/" ys
    rw [h1'] at hj2
    refine v_join (ys := ys) rfl (by rw [h1']; omega) (k _ _ ?_ s1)
    show (Builtin.Str.glued "/" ys).length ≤ _
    rw [StrLaws.glued_eq_join]
    have : ys.length * (20 + 1) = n * 21 := by rw [hl, hq]
    omega
theorem path_k {P : D → Hap → Prop} (hs : St t h) (hn : ns.length ≤ 63) (k : ∀ z h', z.length ≤ 105 → St t h' → P (.str z) h') : Sat (Mi.m_law_path [.ref 0, scr ns] h) P := by
  unfold Mi.m_law_path Mi.b_law_path
  walk_at "x"
  walk_at "nx"
  intro r0 h0 a0 b0 s0
  walk_at "x"
  refine s_cut (fun e h => ∃ size : Int, e = [some (.ref 0), some (scr ns), some (.int size), none] ∧ 1 ≤ size ∧ size ≤ 5 ∧ St t h) ?_ ?_
  · walk_at "x"
    refine ⟨fun e => ?_, fun e => ?_⟩
    · walk_at "x"
      walk_at "nx"
      intro r1 h1 a1 b1 s1
      walk_at "x"
      exact ⟨_, rfl, by omega, by omega, s1⟩
    · walk_at "x"
      exact ⟨_, rfl, by omega, by omega, s0⟩
  rintro _ h1 ⟨size, rfl, q0, q1, s1⟩
  walk_at "x"
  refine ⟨rfl, ?_⟩
  walk_at "x"
  refine parts_k (n := size.toNat) s1 hn (by omega) rfl rfl (by decide) (by decide) _ (fun P' p => ?_) fun z h' q s => k z h' (by omega) s
  walk_at "x"
  exact x_rng1 (by omega) p
end
end Vi

set_option Elab.async false
set_option linter.all false
set_option autoImplicit false
set_option maxRecDepth 100000
set_option maxHeartbeats 1000000
namespace Vi
open PySem PySem.Spec PyProof.Rows L2
open scoped Classical
local macro_rules | `(tactic| walk_at "x1") => `(tactic| with_reducible first
  | refine x_bin ?_ | refine x_tst ?_ | refine x_oB ?_ | refine x_c ?_ | refine s_seqA ?_ | refine s_seqU ?_ | refine s_seqE ?_ | refine s_seqN ?_ | refine s_asg' ?_ | refine s_if' ?_ | refine s_ret' ?_ | refine s_exp' ?_ | refine s_next ?_ | refine s_retN' ?_ | refine s_sub' ?_
  | refine x_cb ?_ | refine x_cons ?_ | refine x_nil ?_ | refine x_call ?_ | refine x_met ?_ | refine x_un ?_ | refine x_notT ?_ | refine x_andT ?_ | refine x_orT ?_ | refine x_and ?_ | refine x_or ?_ | refine x_not ?_ | refine x_if ?_
  | refine x_tup ?_ | refine x_lst ?_ | refine x_cel ?_ | refine x_sl ?_ | refine x_noP ?_ | refine x_part ?_ | refine x_oI ?_ | refine x_mI ?_ | refine x_rng ?_ | refine x_yes ?_ | refine x_fun ?_ | refine x_ok ?_)
local macro_rules | `(tactic| walk_at "x2") => `(tactic| first
  | ((with_reducible refine y_var ?_); refine ⟨_, rfl, ?_⟩)
  | ((with_reducible refine y_some ?_); refine ⟨_, rfl, ?_⟩)
  | ((with_reducible refine y_gP ?_); refine ⟨_, rfl, ?_⟩))
local macro_rules | `(tactic| walk_at "x") => `(tactic| repeat (first | walk_at "x1" | walk_at "x2" ))
local macro_rules | `(tactic| walk_at "nx") => `(tactic| (refine next_k (by assumption) (by assumption) (by first | decide | omega) (by first | decide | omega) ?_))
/-! ### segments and paths: what both answer -/
def segB (z : Str) : Bool := decide (1 ≤ z.length) && decide (z.length ≤ 20) && decide (z.cps[0]! ∈ ("abcdefghijklmnopqrstuvwxyz0123456789" : Str).cps.toList) && z.cps.toList.all fun c => decide (c ∈ ("abcdefghijklmnopqrstuvwxyz0123456789_-." : Str).cps.toList)
def pathB (z : Str) : Bool := decide ((Txt.split z "/").length < 6) && (Txt.split z "/").all segB
theorem empty_iff (z : Str) : z = "" ↔ z.length = 0 := by
  constructor
  · rintro rfl
    decide
  · intro h
    obtain ⟨cs⟩ := z
    have e : cs = #[] := Array.eq_empty_of_size_eq_zero h
    subst e
    decide
section
variable {h : Hap} {P : D → Hap → Prop}
theorem at0 {z : Str} (h1 : 1 ≤ z.length) : atI z.cps.toList 0 = some (z.cps[0]!) := by
  obtain ⟨cs⟩ := z
  have h1 : 1 ≤ cs.size := h1
  unfold atI ixN
  rw [if_pos (Int.le_refl 0), if_pos (by rw [Array.length_toList]; show (0 : Int) < cs.size; omega)]
  show cs.toList[0]? = _
  rw [Array.getElem?_toList]
  simp [show 0 < cs.size by omega]
theorem is_segment_k {z : Str} (hl : z.length ≤ 1000000) (k : P (.bl (segB z)) h) : Sat (Mi.m_is_segment [.str z] h) P := by
  unfold Mi.m_is_segment Mi.b_is_segment
  walk_at "x"
  refine s_seq ?_
  walk_at "x"
  have fin : segB z = false → P (.bl false) h := fun e => by rw [← e]; exact k
  refine ⟨fun e => ?_, fun e => ?_⟩
  · walk_at "x"
    refine ⟨fun _ => ?_, fun z => nomatch z⟩
    walk_at "x"
    refine fin ?_
    have e : z = "" := by simpa using e
    subst e
    decide +kernel
  have e : ¬ z = "" := by simpa using e
  have h1 : 1 ≤ z.length := by
    rcases Nat.eq_zero_or_pos z.length with q | q
    · exact absurd ((empty_iff z).mpr q) e
    · exact q
  walk_at "x"
  refine v_lens (sl_le (by omega)) ?_
  walk_at "x"
  refine ⟨fun e => ?_, fun e => ?_⟩
  · walk_at "x"
    refine fin ?_
    have e : ¬ z.length ≤ 20 := by simp at e; omega
    unfold segB
    rw [decide_eq_false e, Bool.and_false, Bool.false_and, Bool.false_and]
  have h2 : z.length ≤ 20 := by simp at e; omega
  walk_at "x"
  refine s_seq ?_
  walk_at "x"
  refine v_ixS (sl_le (by omega)) (at0 h1) ?_
  walk_at "x"
  refine ⟨fun e => ?_, fun e => ?_⟩
  · walk_at "x"
    refine fin ?_
    have e : (!decide (z.cps[0]! ∈ ("abcdefghijklmnopqrstuvwxyz0123456789" : Str).cps.toList)) = true := e
    have e : ¬ z.cps[0]! ∈ ("abcdefghijklmnopqrstuvwxyz0123456789" : Str).cps.toList := by simpa using e
    unfold segB
    rw [decide_eq_false e, Bool.and_false, Bool.false_and]
  have e : (!decide (z.cps[0]! ∈ ("abcdefghijklmnopqrstuvwxyz0123456789" : Str).cps.toList)) = false := e
  have h3 : z.cps[0]! ∈ ("abcdefghijklmnopqrstuvwxyz0123456789" : Str).cps.toList := by simpa using e
  walk_at "x"
  refine x_compI (fun pre post h' acc => h' = h ∧ ∃ cs : List Nat, pre = cs.map (fun c => .str (ch c)) ∧ acc = cs.map fun c => .bl (decide (c ∈ ("abcdefghijklmnopqrstuvwxyz0123456789_-." : Str).cps.toList))) ?_
  walk_at "x"
  refine ⟨_, rfl, ⟨rfl, [], rfl, rfl⟩, fun _ _ _ _ _ _ => rfl, ?_, ?_⟩
  · rintro pre x post _ acc hx ⟨rfl, cs, rfl, rfl⟩
    have hm : x ∈ z.cps.toList.map (fun c => D.str (ch c)) := by
      have hx : z.cps.toList.map (fun c => D.str (ch c)) = _ := hx
      rw [hx]
      simp
    obtain ⟨c, _, rfl⟩ := List.mem_map.mp hm
    have hq := congrArg List.length hx
    have hq : z.cps.toList.length = cs.length + (post.length + 1) := by simpa using hq
    rw [len_list] at hq
    refine ⟨_, rfl, ?_⟩
    walk_at "x"
    refine ⟨fun _ => ⟨by rw [sizeLine_eq, List.length_map]; omega, ?_⟩, fun z => nomatch z⟩
    walk_at "x"
    exact ⟨rfl, cs ++ [c], by simp, by rw [List.map_append]; rfl⟩
  · rintro _ acc ⟨rfl, cs, hcs, rfl⟩
    have hcs : z.cps.toList.map (fun c => D.str (ch c)) = cs.map (fun c => D.str (ch c)) := hcs
    have e : z.cps.toList = cs := by
      have inj : ∀ a b : List Nat, a.map (fun c => D.str (ch c)) = b.map (fun c => D.str (ch c)) → a = b := by
        intro a
        induction a with
        | nil => intro b e; cases b with
          | nil => rfl
          | cons b bs => cases e
        | cons a as ih =>
          intro b e
          cases b with
          | nil => cases e
          | cons b bs =>
            rw [List.map_cons, List.map_cons] at e
            injection e with e1 e2
            injection e1 with e1
            injection e1 with e1
            have e3 : a = b := by simpa using e1
            rw [e3, ih bs e2]
      exact inj _ _ hcs
    subst e
    walk_at "x"
    refine v_all (bs := z.cps.toList.map fun c => decide (c ∈ ("abcdefghijklmnopqrstuvwxyz0123456789_-." : Str).cps.toList)) (by simp [getL, List.map_map, Function.comp_def]) ?_
    have q : segB z = (z.cps.toList.map fun c => decide (c ∈ ("abcdefghijklmnopqrstuvwxyz0123456789_-." : Str).cps.toList)).all id := by
      unfold segB
      rw [decide_eq_true h1, decide_eq_true h2, decide_eq_true h3, List.all_map]
      rfl
    rw [q] at k
    exact k
theorem law_is_segment_k {z : Str} (hl : z.length ≤ 1000000) (k : P (.bl (segB z)) h) : Sat (Mi.m_law_is_segment [.str z] h) P := by
  unfold Mi.m_law_is_segment Mi.b_law_is_segment
  have fin : segB z = false → P (.bl false) h := fun e => by rw [← e]; exact k
  walk_at "x"
  refine s_seq ?_
  walk_at "x"
  refine v_lens (sl_le (by omega)) ?_
  walk_at "x"
  refine ⟨fun e => ?_, fun e => ?_⟩
  · refine ⟨fun _ => ?_, fun z => nomatch z⟩
    walk_at "x"
    refine fin ?_
    have e : ¬ 1 ≤ z.length := by simp at e; omega
    unfold segB
    rw [decide_eq_false e, Bool.false_and, Bool.false_and, Bool.false_and]
  have h1 : 1 ≤ z.length := by simp at e; omega
  walk_at "x"
  refine v_lens (sl_le (by omega)) ?_
  walk_at "x"
  refine ⟨fun e => ?_, fun e => ?_⟩
  · refine ⟨fun _ => ?_, fun z => nomatch z⟩
    walk_at "x"
    refine fin ?_
    have e : ¬ z.length ≤ 20 := by simp at e; omega
    unfold segB
    rw [decide_eq_false e, Bool.and_false, Bool.false_and, Bool.false_and]
  have h2 : z.length ≤ 20 := by simp at e; omega
  walk_at "x"
  refine v_ixS (sl_le (by omega)) (at0 h1) ?_
  walk_at "x"
  refine ⟨fun e => ?_, fun e => ?_⟩
  · walk_at "x"
    refine fin ?_
    have e : (!decide (z.cps[0]! ∈ ("abcdefghijklmnopqrstuvwxyz0123456789" : Str).cps.toList)) = true := e
    have e : ¬ z.cps[0]! ∈ ("abcdefghijklmnopqrstuvwxyz0123456789" : Str).cps.toList := by simpa using e
    unfold segB
    rw [decide_eq_false e, Bool.and_false, Bool.false_and]
  have e : (!decide (z.cps[0]! ∈ ("abcdefghijklmnopqrstuvwxyz0123456789" : Str).cps.toList)) = false := e
  have h3 : z.cps[0]! ∈ ("abcdefghijklmnopqrstuvwxyz0123456789" : Str).cps.toList := by simpa using e
  walk_at "x"
  have q : segB z = z.cps.toList.all fun c => decide (c ∈ ("abcdefghijklmnopqrstuvwxyz0123456789_-." : Str).cps.toList) := by
    unfold segB
    rw [decide_eq_true h1, decide_eq_true h2, decide_eq_true h3]
    rfl
  refine s_seq (s_forI (fun pre post e h' => h' = h ∧ ∃ (cs : List Nat) (x : Option D), e = [some (.str z), some (.str "abcdefghijklmnopqrstuvwxyz0123456789"), x] ∧ pre = cs.map (fun c => .str (ch c)) ∧ ∀ c ∈ cs, c ∈ ("abcdefghijklmnopqrstuvwxyz0123456789_-." : Str).cps.toList) ?_)
  walk_at "x"
  refine ⟨_, rfl, ⟨rfl, [], _, rfl, rfl, by simp⟩, fun _ _ _ _ _ _ => rfl, ?_, ?_⟩
  · rintro pre x post e _ hx ⟨rfl, cs, xo, rfl, rfl, hc⟩
    have hx : z.cps.toList.map (fun c => D.str (ch c)) = cs.map (fun c => D.str (ch c)) ++ x :: post := hx
    have hm : x ∈ z.cps.toList.map (fun c => D.str (ch c)) := by
      rw [hx]
      simp
    obtain ⟨c, hcz, rfl⟩ := List.mem_map.mp hm
    refine ⟨_, rfl, ?_⟩
    walk_at "x"
    refine ⟨fun e => ?_, fun e => ?_⟩
    · walk_at "x"
      refine fin ?_
      have e : (!decide (c ∈ ("abcdefghijklmnopqrstuvwxyz0123456789_-." : Str).cps.toList)) = true := e
      have e : ¬ c ∈ ("abcdefghijklmnopqrstuvwxyz0123456789_-." : Str).cps.toList := by simpa using e
      rw [q, List.all_eq_false]
      exact ⟨c, hcz, by rw [decide_eq_false e]; exact fun z => nomatch z⟩
    · have e : (!decide (c ∈ ("abcdefghijklmnopqrstuvwxyz0123456789_-." : Str).cps.toList)) = false := e
      have e : c ∈ ("abcdefghijklmnopqrstuvwxyz0123456789_-." : Str).cps.toList := by simpa using e
      walk_at "x"
      refine ⟨rfl, cs ++ [c], _, rfl, by simp, fun y m => ?_⟩
      simp only [List.mem_append, List.mem_singleton] at m
      rcases m with m | rfl
      · exact hc y m
      · exact e
  · rintro e _ ⟨rfl, cs, xo, rfl, hcs, hc⟩
    have hcs : z.cps.toList.map (fun c => D.str (ch c)) = cs.map (fun c => D.str (ch c)) := hcs
    walk_at "x"
    have : segB z = true := by
      rw [q, List.all_eq_true]
      intro c m
      have m2 : D.str (ch c) ∈ z.cps.toList.map (fun c => D.str (ch c)) := List.mem_map.mpr ⟨c, m, rfl⟩
      rw [hcs] at m2
      obtain ⟨c', m3, e⟩ := List.mem_map.mp m2
      injection e with e
      injection e with e
      have : c' = c := by simpa using e
      rw [← this]
      exact decide_eq_true (hc c' m3)
    rw [this] at k
    exact k
/-- the parts of a text are no longer than it -/
theorem spl_len (S : List Nat) : ∀ (l : List Nat) (k : Nat) (acc : List Nat), ∀ p ∈ TL.spl S k acc l, p.length ≤ acc.length + l.length
  | [], k, acc, p, m => by
    have m : p ∈ [acc] := by cases k <;> exact m
    simp at m
    subst m
    omega
  | c :: r, 0, acc, p, m => by
    unfold TL.spl at m
    split at m
    · rcases List.mem_cons.mp m with rfl | m
      · omega
      · have := spl_len S r _ [] p m
        simp at this ⊢
        omega
    · have := spl_len S r _ _ p m
      simp at this ⊢
      omega
  | c :: r, k + 1, acc, p, m => by
    have := spl_len S r k acc p m
    simp
    omega
theorem split_len {z p : Str} (m : p ∈ Txt.split z "/") : p.length ≤ z.length := by
  have e := TL.split_spl z "/" (by decide) (TL.kind_ok (by decide +kernel))
  have m2 : TL.tl p ∈ (Txt.split z "/").map TL.tl := List.mem_map.mpr ⟨p, m, rfl⟩
  rw [e] at m2
  have := spl_len _ _ _ _ _ m2
  rw [TL.len_tl p, TL.len_tl z]
  simpa using this
theorem spl_count (S : List Nat) : ∀ (l : List Nat) (k : Nat) (acc : List Nat), (TL.spl S k acc l).length ≤ l.length + 1
  | [], k, acc => by cases k <;> exact Nat.le_refl _
  | c :: r, 0, acc => by
    unfold TL.spl
    split
    · have := spl_count S r (S.length - 1) []
      simp
      omega
    · have := spl_count S r 0 (acc ++ [c])
      simp
      omega
  | c :: r, k + 1, acc => by
    have := spl_count S r k acc
    simp
    exact Nat.le_succ_of_le this
theorem split_count (z : Str) : (Txt.split z "/").length ≤ z.length + 1 := by
  have e := congrArg List.length (TL.split_spl z "/" (by decide) (TL.kind_ok (by decide +kernel)))
  rw [List.length_map] at e
  have := spl_count (TL.tl "/") (TL.tl z) 0 []
  rw [TL.len_tl z]
  omega
theorem is_path_k {z : Str} (hl : z.length ≤ 1000000) (k : P (.bl (pathB z)) h) : Sat (Mi.m_is_path [.str z] h) P := by
  have hc := split_count z
  have hp := fun p => @split_len z p
  unfold Mi.m_is_path Mi.b_is_path
  walk_at "x"
  refine ⟨rfl, ?_⟩
  walk_at "x"
  refine v_split ⟨by decide, by rw [sizeLine_eq]; omega⟩ ?_
  generalize hw : Txt.split z "/" = ps at *
  have hB : pathB z = (decide (ps.length < 6) && ps.all segB) := by unfold pathB; rw [hw]
  refine s_seq ?_
  walk_at "x"
  rw [List.length_map]
  refine ⟨fun e => ?_, fun e => ?_⟩
  · walk_at "x"
    have e : ¬ ps.length < 6 := by simp at e; omega
    rw [hB, decide_eq_false e] at k
    exact k
  have e : ps.length < 6 := by simp at e; omega
  walk_at "x"
  refine x_compI (fun pre post h' acc => h' = h ∧ ∃ qs : List Str, pre = qs.map .str ∧ acc = qs.map fun p => .bl (segB p)) ?_
  walk_at "x"
  refine ⟨_, rfl, ⟨rfl, [], rfl, rfl⟩, fun _ _ _ _ _ _ => rfl, ?_, ?_⟩
  · rintro pre x post _ acc hx ⟨rfl, qs, rfl, rfl⟩
    have hx : ps.map D.str = qs.map .str ++ x :: post := hx
    have hm : x ∈ ps.map D.str := by
      rw [hx]
      simp
    have hq := congrArg List.length hx
    simp only [List.length_map, List.length_append, List.length_cons] at hq
    obtain ⟨p, m, rfl⟩ := List.mem_map.mp hm
    refine ⟨_, rfl, ?_⟩
    walk_at "x"
    refine ⟨fun _ => ⟨by rw [sizeLine_eq, List.length_map]; omega, ?_⟩, fun z => nomatch z⟩
    walk_at "x"
    refine is_segment_k (by have := hp p m; omega) ?_
    exact ⟨rfl, qs ++ [p], by simp, by simp⟩
  · rintro _ acc ⟨rfl, qs, hqs, rfl⟩
    have hqs : ps.map D.str = qs.map .str := hqs
    have e2 : ps = qs := by
      have inj : Function.Injective D.str := fun a b e => by injection e
      exact (List.map_inj_right (fun a b e => inj e)).mp hqs
    subst e2
    walk_at "x"
    refine v_all (bs := ps.map segB) (by simp [getL, List.map_map, Function.comp_def]) ?_
    rw [hB, decide_eq_true e] at k
    rw [List.all_map]
    exact k
theorem law_is_path_k {z : Str} (hl : z.length ≤ 1000000) (k : P (.bl (pathB z)) h) : Sat (Mi.m_law_is_path [.str z] h) P := by
  have hc := split_count z
  have hp := fun p => @split_len z p
  unfold Mi.m_law_is_path Mi.b_law_is_path
  walk_at "x"
  refine ⟨rfl, ?_⟩
  walk_at "x"
  refine v_split ⟨by decide, by rw [sizeLine_eq]; omega⟩ ?_
  generalize hw : Txt.split z "/" = ps at *
  have hB : pathB z = (decide (ps.length < 6) && ps.all segB) := by unfold pathB; rw [hw]
  walk_at "x"
  refine ⟨_, rfl, ?_⟩
  rw [List.length_map]
  refine ⟨fun e => ?_, fun e => ?_⟩
  rotate_left
  · have e : ¬ ps.length < 6 := by simp at e; omega
    rw [hB, decide_eq_false e] at k
    exact k
  have e : ps.length < 6 := by simp at e; omega
  walk_at "x"
  refine x_compI (fun pre post h' acc => h' = h ∧ ∃ qs : List Str, pre = qs.map .str ∧ acc = (qs.filter fun p => !segB p).map fun _ => .int 1) ?_
  walk_at "x"
  refine ⟨_, rfl, ⟨rfl, [], rfl, rfl⟩, fun _ _ _ _ _ _ => rfl, ?_, ?_⟩
  · rintro pre x post _ acc hx ⟨rfl, qs, rfl, rfl⟩
    have hx : ps.map D.str = qs.map .str ++ x :: post := hx
    have hm : x ∈ ps.map D.str := by
      rw [hx]
      simp
    have hq := congrArg List.length hx
    simp only [List.length_map, List.length_append, List.length_cons] at hq
    obtain ⟨p, m, rfl⟩ := List.mem_map.mp hm
    refine ⟨_, rfl, ?_⟩
    walk_at "x"
    refine law_is_segment_k (by have := hp p m; omega) ?_
    walk_at "x"
    refine ⟨fun e => ⟨?_, ?_⟩, fun e => ?_⟩
    · have := List.length_filter_le (fun p => !segB p) qs
      rw [sizeLine_eq, List.length_map]
      omega
    · walk_at "x"
      exact ⟨rfl, qs ++ [p], by simp, by simp [List.filter_append, e]⟩
    · exact ⟨rfl, qs ++ [p], by simp, by simp [List.filter_append, e]⟩
  · rintro _ acc ⟨rfl, qs, hqs, rfl⟩
    have hqs : ps.map D.str = qs.map .str := hqs
    have e2 : ps = qs := by
      have inj : Function.Injective D.str := fun a b e => by injection e
      exact (List.map_inj_right (fun a b e => inj e)).mp hqs
    subst e2
    walk_at "x"
    rw [List.length_map]
    rw [hB, decide_eq_true e, Bool.true_and] at k
    have q : decide (((ps.filter fun p => !segB p).length : Int) = 0) = ps.all segB := by
      rw [Bool.eq_iff_iff, decide_eq_true_iff, List.all_eq_true]
      constructor
      · intro z p m
        have z : (ps.filter fun p => !segB p) = [] := List.length_eq_zero_iff.mp (by omega)
        have := List.filter_eq_nil_iff.mp z p m
        simpa using this
      · intro z
        have : (ps.filter fun p => !segB p) = [] := List.filter_eq_nil_iff.mpr fun p m => by simp [z p m]
        rw [this]
        rfl
    rw [q]
    exact k
theorem yes_k {a b : Bool} (k : P (.bl (a == b)) h) : Sat (Mi.m_law_yes [.bl a, .bl b] h) P := by
  unfold Mi.m_law_yes Mi.b_law_yes
  walk_at "x"
  refine ⟨true, rfl, fun _ => ?_, fun z => nomatch z⟩
  walk_at "x"
  have : decide (a = b) = (a == b) := by cases a <;> cases b <;> rfl
  rw [this]
  exact k
theorem is_folder_k {z : Str} (hl : z.length ≤ 1000000) (k : P (.bl (decide (z = "") || pathB z)) h) : Sat (Mi.m_is_folder [.str z] h) P := by
  unfold Mi.m_is_folder Mi.b_is_folder
  walk_at "x"
  refine ⟨_, rfl, fun e => ?_, fun e => ?_⟩
  · rw [e] at k
    exact k
  · rw [e] at k
    walk_at "x"
    exact is_path_k hl k
theorem starts_eq {x y : Str} : Txt.startswith x y = decide (cutS x none (some (y.length : Int)) = y) := by
  unfold Txt.startswith
  rw [StrLaws.subAt_eq, List.drop_zero]
  have e : cutS x none (some (y.length : Int)) = ⟨(x.cps.toList.take (min y.length x.length)).toArray⟩ := by
    unfold cutS
    rw [HT.sIx_none, HT.sIx_nat, List.drop_zero, Nat.sub_zero]
  rw [e, Bool.eq_iff_iff, decide_eq_true_iff, Bool.and_eq_true, decide_eq_true_iff]
  constructor
  · rintro ⟨h1, h2⟩
    have h2 : x.cps.toList.take y.length = y.cps.toList := by simpa using h2
    rw [Nat.min_eq_left (by omega), h2]
  · intro h1
    have h2 : x.cps.toList.take (min y.length x.length) = y.cps.toList := congrArg (fun s : Str => s.cps.toList) h1
    have h3 := congrArg List.length h2
    rw [List.length_take, len_list, len_list] at h3
    rw [Nat.min_eq_left (by omega)] at h2
    exact ⟨by omega, by rw [h2]; simp⟩
def liesB (p f : Str) : Bool := decide (f = "") || Txt.startswith p (f ++ "/")
theorem lies_in_k {p f : Str} (hl : f.length ≤ 1000000) (k : P (.bl (liesB p f)) h) : Sat (Mi.m_lies_in [.str p, .str f] h) P := by
  unfold Mi.m_lies_in Mi.b_lies_in
  unfold liesB at k
  walk_at "x"
  refine ⟨_, rfl, fun e => ?_, fun e => ?_⟩
  · rw [e] at k
    exact k
  · rw [e] at k
    walk_at "x"
    refine ⟨rfl, ?_⟩
    walk_at "x"
    refine v_adds (sl_le (by have : Str.length "/" = 1 := by decide
                             omega)) ?_
    walk_at "x"
    exact k
theorem law_lies_k {p f : Str} (hl : f.length ≤ 1000000) (hl2 : p.length ≤ 1000000) (k : P (.bl (liesB p f)) h) : Sat (Mi.m_law_lies [.str p, .str f] h) P := by
  have h1 : Str.length "/" = 1 := by decide
  unfold Mi.m_law_lies Mi.b_law_lies
  unfold liesB at k
  walk_at "x"
  refine ⟨_, rfl, fun e => ?_, fun e => ?_⟩
  · rw [e] at k
    exact k
  · rw [e] at k
    walk_at "x"
    refine v_lens (sl_le (by omega)) ?_
    walk_at "x"
    refine v_slS (sl_le (by omega)) ?_
    walk_at "x"
    refine v_adds (sl_le (by omega)) ?_
    walk_at "x"
    rw [starts_eq, len_app, h1] at k
    exact k
section
variable {t : Hap} {ns : List Int}
theorem char_k {r : Int} (r0 : 0 ≤ r) (r1 : r < 95) (k : ∀ c : Nat, P (.str (ch c)) h) : Sat (Mi.m_law_char [.int r] h) P := by
  unfold Mi.m_law_char Mi.b_law_char
  walk_at "x"
  obtain ⟨c, e1, _, _⟩ := atI_ok (xs := (" !\"#$&'()*+,-./0123456789:;<=>?@ABCDEFGHIJKLMNOPQRSTUVWXYZ[\\]^_`" ++ "abcdefghijklmnopqrstuvwxyz{|}~\n" : Str).cps.toList) r0 (by rw [len_list]; exact r1)
  exact v_ixS (sl_le (by decide)) e1 (k c)
theorem words_k (hs : St t h) (hn : ns.length ≤ 63) (k : ∀ z h', z.length ≤ 24 → St t h' → P (.str z) h') : Sat (Mi.m_law_words [.ref 0, scr ns] h) P := by
  unfold Mi.m_law_words Mi.b_law_words
  walk_at "x"
  refine s_seq (s_forI (fun pre post e h => ∃ z a b, e = [some (.ref 0), some (scr ns), some (.str z), a, b] ∧ z.length ≤ 4 * pre.length ∧ St t h) ?_)
  walk_at "x"
  walk_at "nx"
  intro r0 h0 a0 b0 s0
  walk_at "x"
  refine x_rng1 (by omega) ⟨⟨_, _, _, rfl, by decide, s0⟩, fun _ _ _ _ _ _ => trivial, ?_, ?_⟩
  · rintro pre x post e h3 hx ⟨z, a, b, rfl, hz, s3⟩
    have hl := congrArg List.length hx
    simp only [rngL, List.length_map, List.length_range, List.length_append, List.length_cons] at hl
    refine ⟨_, rfl, ?_⟩
    walk_at "x"
    walk_at "nx"
    intro r4 h4 a4 b4 s4
    walk_at "x"
    refine ⟨fun e => ?_, fun e => ?_⟩
    · have e : r4 < 6 := by simpa using e
      walk_at "x"
      refine ⟨sl_le (by decide), ?_⟩
      walk_at "x"
      obtain ⟨d, e1, m, _⟩ := atI_ok (xs := [D.str "a", .str "b", .str "ab", .str "\n", .str " ", .str "one\n"]) a4 e
      refine x_some (d := d) e1 ?_
      have : ∃ y : Str, d = .str y ∧ y.length ≤ 4 := by
        simp only [List.mem_cons, List.not_mem_nil, or_false] at m
        rcases m with rfl | rfl | rfl | rfl | rfl | rfl
        all_goals exact ⟨_, rfl, by decide⟩
      obtain ⟨y, rfl, hy⟩ := this
      refine v_adds (sl_le (by omega)) ?_
      exact ⟨_, _, _, rfl, by rw [len_app, List.length_append, List.length_singleton]; omega, s4⟩
    · walk_at "x"
      walk_at "nx"
      intro r5 h5 a5 b5 s5
      walk_at "x"
      refine char_k a5 b5 fun c => ?_
      refine v_adds (sl_le (by rw [len_ch]; omega)) ?_
      exact ⟨_, _, _, rfl, by rw [len_app, len_ch, List.length_append, List.length_singleton]; omega, s5⟩
  · rintro e h3 ⟨z, a, b, rfl, hz, s3⟩
    have hl : (rngL 0 r0.toNat).length = r0.toNat := by simp [rngL]
    have hz : z.length ≤ 4 * (rngL 0 r0.toNat).length := hz
    walk_at "x"
    exact k z _ (by omega) s3
theorem folder_k (hs : St t h) (hn : ns.length ≤ 63) (k : ∀ z h', z.length ≤ 105 → St t h' → P (.str z) h') : Sat (Mi.m_law_folder [.ref 0, scr ns] h) P := by
  unfold Mi.m_law_folder Mi.b_law_folder
  walk_at "x"
  refine s_seq ?_
  walk_at "x"
  walk_at "nx"
  intro r0 h0 a0 b0 s0
  walk_at "x"
  refine ⟨fun e => ?_, fun e => ?_⟩
  · walk_at "x"
    exact k _ _ (by decide) s0
  · walk_at "x"
    exact path_k s0 hn k
theorem text_k (hs : St t h) (hn : ns.length ≤ 63) (k : ∀ z h', z.length ≤ 10000 → St t h' → P (.str z) h') : Sat (Mi.m_law_text [.ref 0, scr ns] h) P := by
  unfold Mi.m_law_text Mi.b_law_text
  walk_at "x"
  walk_at "nx"
  intro r0 h0 a0 b0 s0
  refine s_seq ?_
  walk_at "x"
  refine ⟨fun e => ?_, fun e => ?_⟩
  · walk_at "x"
    exact words_k s0 hn fun z h' q s => k z h' (by omega) s
  walk_at "x"
  refine segment_k s0 hn fun z1 h1 q1 q2 s1 => ?_
  refine s_cut (fun e h => ∃ z : Str, e = [some (.ref 0), some (scr ns), some (.int r0), some (.str z), none, none, none, none, none] ∧ z.length ≤ 630 ∧ St t h) ?_ ?_
  · walk_at "x"
    refine ⟨fun e => ?_, fun e => ?_⟩
    · walk_at "x"
      refine ⟨rfl, ?_⟩
      walk_at "x"
      -- the number of parts is drawn ahead of the comprehension
      refine x_compI (fun pre post h acc => ∃ (n : Nat) (ys : List Str), n ≤ 30 ∧ pre.length + post.length = n ∧ acc = ys.map .str ∧ ys.length = pre.length ∧ (∀ y ∈ ys, y.length ≤ 20) ∧ St t h) ?_
      walk_at "x"
      refine ⟨sl_le (by decide), ?_⟩
      walk_at "x"
      walk_at "nx"
      intro r2 h2 a2 b2 s2
      obtain ⟨d, e1, m, _⟩ := atI_ok (xs := [D.int 7, .int 7, .int 30]) a2 b2
      refine x_some (d := d) e1 ?_
      have : ∃ y : Int, d = .int y ∧ 1 ≤ y ∧ y ≤ 30 := by
        simp only [List.mem_cons, List.not_mem_nil, or_false] at m
        rcases m with rfl | rfl | rfl
        all_goals exact ⟨_, rfl, by decide, by decide⟩
      obtain ⟨y, rfl, y1, y2⟩ := this
      walk_at "x"
      walk_at "nx"
      intro r3 h3 a3 b3 s3
      walk_at "x"
      have hq : (rngL 0 (1 + r3).toNat).length = (1 + r3).toNat := by simp [rngL]
      refine x_rng1 (by omega) ⟨⟨(1 + r3).toNat, [], by omega, by simp [rngL], rfl, rfl, by simp, s3⟩, fun _ _ _ _ _ _ => trivial, ?_, ?_⟩
      · rintro pre x post h4 acc hx ⟨n, ys, hn1, hn2, rfl, hl, hy, s4⟩
        refine ⟨_, rfl, x_yes ⟨fun _ => ⟨?_, ?_⟩, fun z => nomatch z⟩⟩
        · rw [List.length_cons] at hn2
          rw [sizeLine_eq, List.length_map]
          omega
        · walk_at "x"
          refine part_k s4 hn fun z h5 z1 z2 s5 => ?_
          rw [List.length_cons] at hn2
          exact ⟨n, ys ++ [z], hn1, by simp; omega, by simp, by simp [hl], fun y m => by
            simp only [List.mem_append, List.mem_singleton] at m
            rcases m with m | rfl
            · exact hy y m
            · exact z1, s5⟩
      · rintro h4 acc ⟨n, ys, hn1, hn2, rfl, hl, hy, s4⟩
        walk_at "x"
        have hl : ys.length = (rngL 0 (1 + r3).toNat).length := hl
        have hj := len_join "/" ys 20 hy
        have h1' : Str.length "/" = 1 := by decide
        have hj2 := StrLaws.join_length_le "/" ys
        rw [h1'] at hj hj2
        refine v_join (ys := ys) rfl (by rw [h1']; omega) ⟨_, rfl, ?_, s4⟩
        show (Builtin.Str.glued "/" ys).length ≤ _
        rw [StrLaws.glued_eq_join]
        omega
    · walk_at "x"
      exact ⟨z1, rfl, by omega, s1⟩
  rintro _ h1 ⟨z, rfl, hz, s1⟩
  refine s_cut (fun e h => ∃ z : Str, e = [some (.ref 0), some (scr ns), some (.int r0), some (.str z), none, none, none, none, none] ∧ z.length ≤ 670 ∧ St t h) ?_ ?_
  · walk_at "x"
    walk_at "nx"
    intro r2 h2 a2 b2 s2
    walk_at "x"
    refine ⟨fun e => ?_, fun e => ?_⟩
    · walk_at "x"
      refine segment_k s2 hn fun z3 h3 q3 _ s3 => ?_
      refine v_adds (sl_le (by omega)) ?_
      walk_at "x"
      refine segment_k s3 hn fun z4 h4 q4 _ s4 => ?_
      refine v_adds (sl_le (by rw [len_app]; omega)) ?_
      exact ⟨_, rfl, by rw [len_app, len_app]; omega, s4⟩
    · walk_at "x"
      exact ⟨z, rfl, by omega, s2⟩
  rintro _ h1 ⟨z, rfl, hz, s1⟩
  refine s_cut (fun e h => ∃ z : Str, e = [some (.ref 0), some (scr ns), some (.int r0), some (.str z), none, none, none, none, none] ∧ z.length ≤ 9400 ∧ St t h) ?_ ?_
  · walk_at "x"
    walk_at "nx"
    intro r2 h2 a2 b2 s2
    walk_at "x"
    refine ⟨fun e => ?_, fun e => ?_⟩
    · walk_at "x"
      walk_at "nx"
      intro r3 h3 a3 b3 s3
      walk_at "x"
      have hm : z.length * (1 + r3).toNat ≤ 670 * 14 := Nat.mul_le_mul (by omega) (by omega)
      refine v_muls ⟨by omega, by omega, sl_le (by omega)⟩ ?_
      exact ⟨_, rfl, by rw [len_rep, Nat.mul_comm]; omega, s3⟩
    · walk_at "x"
      exact ⟨z, rfl, by omega, s2⟩
  rintro _ h1 ⟨z, rfl, hz, s1⟩
  refine s_seq (s_forI (fun pre post e h => ∃ z a b c d, e = [some (.ref 0), some (scr ns), some (.int r0), some (.str z), a, b, c, d, none] ∧ z.length ≤ 9400 + pre.length ∧ pre.length + post.length ≤ 3 ∧ St t h) ?_)
  walk_at "x"
  refine ⟨sl_le (by decide), ?_⟩
  walk_at "x"
  walk_at "nx"
  intro r2 h2 a2 b2 s2
  obtain ⟨d, e1, m, _⟩ := atI_ok (xs := [D.int 1, .int 1, .int 2, .int 3]) a2 b2
  refine x_some (d := d) e1 ?_
  have : ∃ y : Int, d = .int y ∧ 1 ≤ y ∧ y ≤ 3 := by
    simp only [List.mem_cons, List.not_mem_nil, or_false] at m
    rcases m with rfl | rfl | rfl | rfl
    all_goals exact ⟨_, rfl, by decide, by decide⟩
  obtain ⟨y, rfl, y1, y2⟩ := this
  walk_at "x"
  refine x_rng1 (by omega) ⟨⟨z, _, _, _, _, rfl, by simp; omega, by simp [rngL]; omega, s2⟩, fun _ _ _ _ _ _ => trivial, ?_, ?_⟩
  · rintro pre x post e h3 hx ⟨z, a, b, c, d, rfl, hz, hl, s3⟩
    rw [List.length_cons] at hl
    refine ⟨_, rfl, ?_⟩
    walk_at "x"
    refine v_lens (sl_le (by omega)) ?_
    walk_at "x"
    walk_at "nx"
    intro p h4 a4 b4 s4
    walk_at "x"
    walk_at "nx"
    intro ch5 h5 a5 b5 s5
    walk_at "x"
    walk_at "nx"
    intro r6 h6 a6 b6 s6
    walk_at "x"
    refine char_k a6 b6 fun c6 => ?_
    have cut := fun l u => len_cutS z l u
    have two : ∀ q : Int, 0 ≤ q → q ≤ z.length → (cutS z none (some q)).length = q.toNat ∧ (cutS z (some q) none).length = z.length - q.toNat := by
      intro q q0 q1
      obtain ⟨n, rfl⟩ := Int.eq_ofNat_of_zero_le q0
      constructor
      · show (List.toArray _).size = _
        rw [List.size_toArray, HT.sIx_none, HT.sIx_nat, List.length_take, List.length_drop, len_list]
        omega
      · show (List.toArray _).size = _
        rw [List.size_toArray, HT.sIx_none, HT.sIx_nat, List.length_take, List.length_drop, len_list]
        omega
    have t1 := two p a4 (by omega)
    refine s_cut (fun e h => ∃ z' : Str, e = [some (.ref 0), some (scr ns), some (.int r0), some (.str z'), some x, some (.int p), some (.int ch5), some (.str (ch c6)), none] ∧ (z' = z ∨ ch5 = 0) ∧ z'.length ≤ 9400 + pre.length + 1 ∧ St t h) ?_ ?_
    · walk_at "x"
      refine ⟨fun e => ?_, fun e => ?_⟩
      · have e : ch5 = 0 := by simpa using e
        walk_at "x"
        refine v_slS (sl_le (by omega)) ?_
        walk_at "x"
        refine v_adds (sl_le (by rw [len_ch]; omega)) ?_
        walk_at "x"
        refine v_slS (sl_le (by omega)) ?_
        refine v_adds (sl_le (by rw [len_app, len_ch]; omega)) ?_
        exact ⟨_, rfl, .inr e, by rw [len_app, len_app, len_ch]; omega, s6⟩
      · walk_at "x"
        exact ⟨z, rfl, .inl rfl, by omega, s6⟩
    rintro _ h7 ⟨z', rfl, hz', hl', s7⟩
    refine s_cut (fun e h => ∃ z' : Str, e = [some (.ref 0), some (scr ns), some (.int r0), some (.str z'), some x, some (.int p), some (.int ch5), some (.str (ch c6)), none] ∧ (z' = z ∨ ch5 = 0 ∨ ch5 = 1) ∧ z'.length ≤ 9400 + pre.length + 1 ∧ St t h) ?_ ?_
    · walk_at "x"
      refine ⟨fun e => ?_, fun e => ?_⟩
      · have e : ch5 = 1 := by simpa using e
        have hz' : z' = z := by
          rcases hz' with q | q
          · exact q
          · omega
        subst hz'
        walk_at "x"
        refine v_slS (sl_le (by omega)) ?_
        walk_at "x"
        refine v_adds (sl_le (by rw [len_ch]; omega)) ?_
        walk_at "x"
        refine v_slS (sl_le (by omega)) ?_
        have c1 := cut (some (p + 1)) none
        have t2 : (cutS z' (some (p + 1)) none).length ≤ z'.length - p.toNat := by
          by_cases hp : p + 1 ≤ z'.length
          · have := (two (p + 1) (by omega) hp).2
            omega
          · show (List.toArray _).size ≤ _
            obtain ⟨n, hn⟩ := Int.eq_ofNat_of_zero_le (show 0 ≤ p + 1 by omega)
            rw [hn, List.size_toArray, HT.sIx_none, HT.sIx_nat, List.length_take, List.length_drop, len_list]
            omega
        refine v_adds (sl_le (by rw [len_app, len_ch]; omega)) ?_
        exact ⟨_, rfl, .inr (.inr e), by rw [len_app, len_app, len_ch]; omega, s7⟩
      · walk_at "x"
        exact ⟨z', rfl, by rcases hz' with q | q <;> simp [q], hl', s7⟩
    rintro _ h8 ⟨z', rfl, hz', hl', s8⟩
    walk_at "x"
    refine ⟨fun e => ?_, fun e => ?_⟩
    · have e : ch5 = 2 := by simpa using e
      walk_at "x"
      refine v_slS (sl_le (by omega)) ?_
      walk_at "x"
      refine v_slS (sl_le (by omega)) ?_
      have hz' : z' = z := by
        rcases hz' with q | q | q
        · exact q
        · omega
        · omega
      subst hz'
      have c1 := cut (some (p + 1)) none
      have t2 : (cutS z' (some (p + 1)) none).length ≤ z'.length - p.toNat := by
        by_cases hp : p + 1 ≤ z'.length
        · have := (two (p + 1) (by omega) hp).2
          omega
        · show (List.toArray _).size ≤ _
          obtain ⟨n, hn⟩ := Int.eq_ofNat_of_zero_le (show 0 ≤ p + 1 by omega)
          rw [hn, List.size_toArray, HT.sIx_none, HT.sIx_nat, List.length_take, List.length_drop, len_list]
          omega
      refine v_adds (sl_le (by omega)) ?_
      exact ⟨_, _, _, _, _, rfl, by rw [len_app, List.length_append, List.length_singleton]; omega, by rw [List.length_append, List.length_singleton]; omega, s8⟩
    · walk_at "x"
      exact ⟨z', _, _, _, _, rfl, by rw [List.length_append, List.length_singleton]; omega, by rw [List.length_append, List.length_singleton]; omega, s8⟩
  · rintro e h3 ⟨z, a, b, c, d, rfl, hz, hl, s3⟩
    walk_at "x"
    exact k z _ (by omega) s3
end
end
end Vi

set_option Elab.async false
set_option linter.all false
set_option autoImplicit false
set_option maxRecDepth 100000
set_option maxHeartbeats 1000000
namespace Vi
open PySem PySem.Spec PyProof.Rows L2
open scoped Classical
local macro_rules | `(tactic| walk_at "x1") => `(tactic| with_reducible first
  | refine x_bin ?_ | refine x_tst ?_ | refine x_oB ?_ | refine x_c ?_ | refine s_seqA ?_ | refine s_seqU ?_ | refine s_seqE ?_ | refine s_seqN ?_ | refine s_asg' ?_ | refine s_if' ?_ | refine s_ret' ?_ | refine s_exp' ?_ | refine s_next ?_ | refine s_retN' ?_ | refine s_sub' ?_
  | refine x_cb ?_ | refine x_cons ?_ | refine x_nil ?_ | refine x_call ?_ | refine x_met ?_ | refine x_un ?_ | refine x_notT ?_ | refine x_andT ?_ | refine x_orT ?_ | refine x_and ?_ | refine x_or ?_ | refine x_not ?_ | refine x_if ?_
  | refine x_tup ?_ | refine x_lst ?_ | refine x_cel ?_ | refine x_sl ?_ | refine x_noP ?_ | refine x_part ?_ | refine x_oI ?_ | refine x_mI ?_ | refine x_rng ?_ | refine x_yes ?_ | refine x_fun ?_ | refine x_ok ?_)
local macro_rules | `(tactic| walk_at "x2") => `(tactic| first
  | ((with_reducible refine y_var ?_); refine ⟨_, rfl, ?_⟩)
  | ((with_reducible refine y_some ?_); refine ⟨_, rfl, ?_⟩)
  | ((with_reducible refine y_gP ?_); refine ⟨_, rfl, ?_⟩))
local macro_rules | `(tactic| walk_at "x3") => `(tactic| first
  | ((with_reducible refine v_mod ?_ ?_); (first | decide | omega))
  | ((with_reducible refine v_pow ?_ ?_); exact ⟨by decide, by decide, by decide⟩))
local macro_rules | `(tactic| walk_at "x") => `(tactic| repeat (first | walk_at "x1" | walk_at "x2" | walk_at "x3" ))
local macro_rules | `(tactic| walk_at "nx") => `(tactic| (refine next_k (by assumption) (by assumption) (by first | decide | omega) (by first | decide | omega) ?_))
/-! ### .. and their signs stand for characters -/
abbrev okS (z : Str) : Prop := PyData.strOk z = true
theorem okS_iff {z : Str} : okS z ↔ ∀ c ∈ z.cps.toList, c < 0x110000 := by
  unfold okS PyData.strOk
  rw [← Array.all_toList, List.all_eq_true]
  exact ⟨fun h c m => of_decide_eq_true (h c m), fun h c m => decide_eq_true (h c m)⟩
theorem okS_app {x y : Str} (hx : okS x) (hy : okS y) : okS (x ++ y) := by
  rw [okS_iff] at *
  intro c m
  have m : c ∈ TL.tl (x ++ y) := m
  rw [TL.tl_append] at m
  rcases List.mem_append.mp m with m | m
  · exact hx c m
  · exact hy c m
theorem okS_ch {z : Str} {c : Nat} (hz : okS z) (m : c ∈ z.cps.toList) : okS (ch c) := by
  rw [okS_iff] at *
  intro d e
  have e : d ∈ [c] := e
  rw [List.mem_singleton.mp e]
  exact hz c m
theorem okS_join {y : Str} (hy : okS y) : ∀ {ys : List Str}, (∀ z ∈ ys, okS z) → okS (Txt.join y ys) := by
  intro ys h
  show okS (Builtin.Str.glued y ys)
  rw [StrLaws.glued_eq_join]
  induction ys with
  | nil =>
    have e : Str.join y [] = ⟨#[]⟩ := rfl
    rw [e]
    decide +kernel
  | cons a ys ih =>
    cases ys with
    | nil => exact h a List.mem_cons_self
    | cons b ys => exact okS_app (okS_app (h a List.mem_cons_self) hy) (ih fun z m => h z (List.mem_cons_of_mem _ m))
section
variable {t h : Hap} {ns : List Int}
theorem segment_okS (hs : St t h) (hn : ns.length ≤ 63) : Sat (Mi.m_law_segment [.ref 0, scr ns] h) fun d h' => ∃ z, d = .str z ∧ z.length ≤ 20 ∧ 1 ≤ z.length ∧ okS z ∧ St t h' := by
  unfold Mi.m_law_segment Mi.b_law_segment
  walk_at "x"
  walk_at "nx"
  intro r0 h0 a0 b0 s0
  walk_at "x"
  refine s_cut (fun e h => ∃ size : Int, e = [some (.ref 0), some (scr ns), some (.str "abcdefghijklmnopqrstuvwxyz0123456789"), some (.str ("abcdefghijklmnopqrstuvwxyz0123456789" ++ "_-.")), some (.int size), none, none] ∧ 1 ≤ size ∧ size ≤ 20 ∧ St t h) ?_ ?_
  · walk_at "x"
    refine ⟨fun e => ?_, fun e => ?_⟩
    · walk_at "x"
      walk_at "nx"
      intro r1 h1 a1 b1 s1
      walk_at "x"
      exact ⟨_, rfl, by omega, by omega, s1⟩
    · walk_at "x"
      exact ⟨_, rfl, by omega, by omega, s0⟩
  rintro _ h1 ⟨size, rfl, q0, q1, s1⟩
  walk_at "x"
  walk_at "nx"
  intro r2 h2 a2 b2 s2
  obtain ⟨c, e1, cm, _⟩ := atI_ok (xs := ("abcdefghijklmnopqrstuvwxyz0123456789" : Str).cps.toList) a2 (by rw [len_list]; exact b2)
  refine v_ixS (sl_le (by decide)) e1 ?_
  walk_at "x"
  refine s_seq (s_forI (fun pre post e h => ∃ z k, e = [some (.ref 0), some (scr ns), some (.str "abcdefghijklmnopqrstuvwxyz0123456789"), some (.str ("abcdefghijklmnopqrstuvwxyz0123456789" ++ "_-.")), some (.int size), some (.str z), k] ∧ z.length = 1 + pre.length ∧ okS z ∧ St t h) ?_)
  walk_at "x"
  refine x_rng1 (by omega) ⟨⟨_, _, rfl, rfl, okS_ch (by decide +kernel) cm, s2⟩, fun _ _ _ _ _ _ => trivial, ?_, ?_⟩
  · rintro pre x post e h3 hx ⟨z, k, rfl, hz, oz, s3⟩
    have hl := congrArg List.length hx
    simp only [rngL, List.length_map, List.length_range, List.length_append, List.length_cons] at hl
    refine ⟨_, rfl, ?_⟩
    walk_at "x"
    walk_at "nx"
    intro r4 h4 a4 b4 s4
    obtain ⟨c, e1, cm, _⟩ := atI_ok (xs := ("abcdefghijklmnopqrstuvwxyz0123456789" ++ "_-." : Str).cps.toList) a4 (by rw [len_list]; exact b4)
    refine v_ixS (sl_le (by decide)) e1 ?_
    refine v_adds (sl_le (by rw [len_ch]; omega)) ?_
    exact ⟨_, _, rfl, by rw [len_app, len_ch, hz, List.length_append, List.length_singleton]; omega, okS_app oz (okS_ch (by decide +kernel) cm), s4⟩
  · rintro e h3 ⟨z, k, rfl, hz, oz, s3⟩
    have hl : (rngL 0 (size - 1).toNat).length = (size - 1).toNat := by simp [rngL]
    have hz : z.length = 1 + (rngL 0 (size - 1).toNat).length := hz
    walk_at "x"
    exact ⟨z, rfl, by omega, by omega, oz, s3⟩
theorem part_okS (hs : St t h) (hn : ns.length ≤ 63) : Sat (Mi.m_law_part [.ref 0, scr ns] h) fun d h' => ∃ z, d = .str z ∧ z.length ≤ 20 ∧ 1 ≤ z.length ∧ okS z ∧ St t h' := by
  unfold Mi.m_law_part Mi.b_law_part
  walk_at "x"
  walk_at "nx"
  intro r0 h0 a0 b0 s0
  refine s_seq ?_
  walk_at "x"
  refine ⟨fun e => ?_, fun e => ?_⟩
  · have e : r0 < 5 := by simpa using e
    walk_at "x"
    refine ⟨sl_le (by decide), ?_⟩
    walk_at "x"
    obtain ⟨d, e1, m, _⟩ := atI_ok (xs := [D.str "a", .str "b", .str "ab", .str "a.b", .str "build"]) a0 e
    refine x_some (d := d) e1 ?_
    simp only [List.mem_cons, List.not_mem_nil, or_false] at m
    rcases m with rfl | rfl | rfl | rfl | rfl
    all_goals exact ⟨_, rfl, by decide, by decide, by decide +kernel, s0⟩
  · walk_at "x"
    exact segment_okS s0 hn
theorem segment_kS {P : D → Hap → Prop} (hs : St t h) (hn : ns.length ≤ 63) (k : ∀ z h', z.length ≤ 20 → 1 ≤ z.length → okS z → St t h' → P (.str z) h') : Sat (Mi.m_law_segment [.ref 0, scr ns] h) P :=
  (segment_okS hs hn).mono fun d h' ⟨z, e, a, b, o, c⟩ => by
    subst e
    exact k z h' a b o c
theorem part_kS {P : D → Hap → Prop} (hs : St t h) (hn : ns.length ≤ 63) (k : ∀ z h', z.length ≤ 20 → 1 ≤ z.length → okS z → St t h' → P (.str z) h') : Sat (Mi.m_law_part [.ref 0, scr ns] h) P :=
  (part_okS hs hn).mono fun d h' ⟨z, e, a, b, o, c⟩ => by
    subst e
    exact k z h' a b o c
/-- "/".join of some parts -/
theorem parts_kS {n : Nat} {env : Env} {P : D → Hap → Prop} {i : Nat} (hs : St t h) (hn : ns.length ≤ 63) (hn2 : n ≤ 1000) (e0 : (env.set i none)[0]? = some (some (.ref 0))) (e1 : (env.set i none)[1]? = some (some (scr ns))) (n0 : 0 ≠ i) (n1 : 1 ≠ i)
    (src : MI) (hsrc : ∀ P' : List D × (Hap → Prop) → Hap → Prop, P' (rngL 0 n, fun _ => True) h → Sat (src env h) P')
    (k : ∀ z h', z.length ≤ n * 21 → okS z → St t h' → P (.str z) h') : Sat (mComp src [i] (gNm i) mYes (mCall Mi.m_law_part (mCons (mVar 0) (mCons (mVar 1) mNil))) env h) fun d h1 => Sat (gP dJoin (.str "/") [d] h1) P := by
  refine x_compI (fun pre post h acc => ∃ ys : List Str, acc = ys.map .str ∧ ys.length = pre.length ∧ (∀ y ∈ ys, y.length ≤ 20 ∧ okS y) ∧ St t h) (hsrc _ ⟨⟨[], rfl, rfl, by simp, hs⟩, fun _ _ _ _ _ _ => trivial, ?_, ?_⟩)
  · rintro pre x post h1 acc hx ⟨ys, rfl, hl, hy, s1⟩
    have hq := congrArg List.length hx
    simp only [rngL, List.length_map, List.length_range, List.length_append, List.length_cons] at hq
    refine ⟨_, rfl, x_yes ⟨fun _ => ⟨?_, ?_⟩, fun z => nomatch z⟩⟩
    · rw [sizeLine_eq, List.length_map]; omega
    · refine x_call (x_cons (x_var (d := .ref 0) ?_ (x_cons (x_var (d := scr ns) ?_ (x_nil (part_kS s1 hn ?_))))))
      · show ((env.set i none).set i _)[0]? = _
        rw [List.getElem?_set_ne (Ne.symm n0)]; exact e0
      · show ((env.set i none).set i _)[1]? = _
        rw [List.getElem?_set_ne (Ne.symm n1)]; exact e1
      · intro z h2 z1 z2 zo s2
        exact ⟨ys ++ [z], by simp, by simp [hl], fun y m => by
          simp only [List.mem_append, List.mem_singleton] at m
          rcases m with m | rfl
          · exact hy y m
          · exact ⟨z1, zo⟩, s2⟩
  · rintro h1 acc ⟨ys, rfl, hl, hy, s1⟩
    have hl : ys.length = (rngL 0 n).length := hl
    have hq : (rngL 0 n).length = n := by simp [rngL]
    have hj := len_join "/" ys 20 fun y m => (hy y m).1
    have h1' : Str.length "/" = 1 := by decide
    rw [h1'] at hj
    have hj2 := StrLaws.join_length_le "/" ys
    rw [h1'] at hj2
    refine v_join (ys := ys) rfl (by rw [h1']; omega) (k _ _ ?_ (okS_join (by decide +kernel) fun y m => (hy y m).2) s1)
    show (Builtin.Str.glued "/" ys).length ≤ _
    rw [StrLaws.glued_eq_join]
    have : ys.length * (20 + 1) = n * 21 := by rw [hl, hq]
    omega
theorem path_kS {P : D → Hap → Prop} (hs : St t h) (hn : ns.length ≤ 63) (k : ∀ z h', z.length ≤ 105 → okS z → St t h' → P (.str z) h') : Sat (Mi.m_law_path [.ref 0, scr ns] h) P := by
  unfold Mi.m_law_path Mi.b_law_path
  walk_at "x"
  walk_at "nx"
  intro r0 h0 a0 b0 s0
  walk_at "x"
  refine s_cut (fun e h => ∃ size : Int, e = [some (.ref 0), some (scr ns), some (.int size), none] ∧ 1 ≤ size ∧ size ≤ 5 ∧ St t h) ?_ ?_
  · walk_at "x"
    refine ⟨fun e => ?_, fun e => ?_⟩
    · walk_at "x"
      walk_at "nx"
      intro r1 h1 a1 b1 s1
      walk_at "x"
      exact ⟨_, rfl, by omega, by omega, s1⟩
    · walk_at "x"
      exact ⟨_, rfl, by omega, by omega, s0⟩
  rintro _ h1 ⟨size, rfl, q0, q1, s1⟩
  walk_at "x"
  refine ⟨rfl, ?_⟩
  walk_at "x"
  refine parts_kS (n := size.toNat) s1 hn (by omega) rfl rfl (by decide) (by decide) _ (fun P' p => ?_) fun z h' q o s => k z h' (by omega) o s
  walk_at "x"
  exact x_rng1 (by omega) p
end
end Vi

set_option Elab.async false
set_option linter.all false
set_option autoImplicit false
set_option maxRecDepth 100000
set_option maxHeartbeats 2000000
namespace Vi
open PySem PySem.Spec PyProof.Rows L2
open scoped Classical
local macro_rules | `(tactic| walk_at "x1") => `(tactic| with_reducible first
  | refine x_bin ?_ | refine x_tst ?_ | refine x_oB ?_ | refine x_c ?_ | refine s_seqA ?_ | refine s_seqU ?_ | refine s_seqE ?_ | refine s_seqN ?_ | refine s_asg' ?_ | refine s_if' ?_ | refine s_ret' ?_ | refine s_exp' ?_ | refine s_next ?_ | refine s_retN' ?_ | refine s_sub' ?_
  | refine x_cb ?_ | refine x_cons ?_ | refine x_nil ?_ | refine x_call ?_ | refine x_met ?_ | refine x_un ?_ | refine x_notT ?_ | refine x_andT ?_ | refine x_orT ?_ | refine x_and ?_ | refine x_or ?_ | refine x_not ?_ | refine x_if ?_
  | refine x_tup ?_ | refine x_lst ?_ | refine x_cel ?_ | refine x_sl ?_ | refine x_noP ?_ | refine x_part ?_ | refine x_oI ?_ | refine x_mI ?_ | refine x_rng ?_ | refine x_yes ?_ | refine x_chn ?_ | refine x_fun ?_ | refine x_ok ?_)
local macro_rules | `(tactic| walk_at "x2") => `(tactic| first
  | ((with_reducible refine y_var ?_); refine ⟨_, rfl, ?_⟩)
  | ((with_reducible refine y_some ?_); refine ⟨_, rfl, ?_⟩)
  | ((with_reducible refine y_gP ?_); refine ⟨_, rfl, ?_⟩))
local macro_rules | `(tactic| walk_at "x") => `(tactic| repeat (first | walk_at "x1" | walk_at "x2" ))
local macro_rules | `(tactic| walk_at "nx") => `(tactic| (refine next_k (by assumption) (by assumption) (by first | decide | omega) (by first | decide | omega) ?_))

/-! ### data without lists, and `_law_same` of it -/
mutual
def D.sz : D → Nat
  | .tup xs => D.szs xs + 1
  | _ => 0
def D.szs : List D → Nat
  | [] => 0
  | d :: ds => max d.sz (D.szs ds)
end
mutual
def D.pl : D → Bool
  | .non => true
  | .bl _ => true
  | .int _ => true
  | .str _ => true
  | .tup xs => decide (xs.length ≤ 1000000) && D.pls xs
  | _ => false
def D.pls : List D → Bool
  | [] => true
  | d :: ds => d.pl && D.pls ds
end
theorem pls_at : ∀ {xs : List D} {k : Nat} {x : D}, D.pls xs = true → xs[k]? = some x → x.pl = true
  | d :: ds, 0, x, h, e => by
    simp at e
    subst e
    rw [D.pls] at h
    exact (Bool.and_eq_true_iff.mp h).1
  | d :: ds, k + 1, x, h, e => by
    rw [D.pls] at h
    exact pls_at (Bool.and_eq_true_iff.mp h).2 (by simpa using e)
theorem szs_at : ∀ {xs : List D} {k : Nat} {x : D}, xs[k]? = some x → x.sz ≤ D.szs xs
  | d :: ds, 0, x, e => by
    simp at e
    subst e
    rw [D.szs]
    omega
  | d :: ds, k + 1, x, e => by
    have := szs_at (xs := ds) (k := k) (x := x) (by simpa using e)
    rw [D.szs]
    omega
theorem at_nat {xs : List D} {k : Nat} {x : D} (e : xs[k]? = some x) : atI xs (0 + (k : Int)) = some x := by
  have hk := (List.getElem?_eq_some_iff.mp e).1
  obtain ⟨y, e1, _, e2⟩ := atI_ok (xs := xs) (i := 0 + (k : Int)) (by omega) (by omega)
  rw [e1, ← e2, ← e]
  congr 1
  omega
theorem same_all : ∀ (n : Nat) (a b : D) (h : Hap), b.sz < n → a.pl = true → b.pl = true → Sat (Mi.mm_law_same n [a, b] h) fun d h' => d = .bl (decide (a = b)) ∧ h' = h
  | 0, _, _, _, hn, _, _ => absurd hn (by omega)
  | n + 1, a, b, h, hn, ha, hb => by
    have tyA : ∃ t, tyD a h = some t := by
      cases a <;> first | exact ⟨_, rfl⟩ | (simp [D.pl] at ha)
    obtain ⟨ta, hta⟩ := tyA
    unfold Mi.mm_law_same Mi.b_law_same
    have isi : ∀ (T : String) (hT : T ∈ clNs) {P : D → Hap → Prop}, P (.bl (isiB ta T)) h → Sat (ofO (dIsi [a, .ty T] h) h) P := fun T hT P p => x_some (by
      show (if T ∈ clNs then (tyD a h).map (fun t => D.bl (isiB t T)) else none) = _
      rw [if_pos hT, hta]
      rfl) p
    cases b with
    | lst | klst | ref | ty => simp [D.pl] at hb
    | non =>
      walk_at "x"
      refine s_seq ?_
      walk_at "x"
      refine ⟨fun _ => ?_, fun e => nomatch e⟩
      walk_at "x"
      refine ⟨?_, rfl⟩
      cases a <;> simp [isN]
    | bl b =>
      walk_at "x"
      refine s_seq ?_
      walk_at "x"
      refine ⟨fun e => (nomatch e), fun _ => ?_⟩
      refine s_seq ?_
      walk_at "x"
      walk_at "x"
      refine ⟨fun e => (nomatch e), fun _ => ?_⟩
      refine s_seq ?_
      walk_at "x"
      walk_at "x"
      refine ⟨fun _ => ?_, fun e => nomatch e⟩
      walk_at "x"
      refine isi "bool" (by decide) ?_
      refine ⟨_, rfl, fun e => ?_, fun e => ?_⟩
      · walk_at "x"
        cases a <;> (first | (simp [D.pl] at ha; done) | skip) <;> simp [tyD] at hta <;> subst hta <;> first | exact absurd e (by decide) | skip
        next b' => exact x_some (d := .bl (decide (b' = b))) rfl ⟨by simp, rfl⟩
      · refine ⟨?_, rfl⟩
        cases a <;> (first | (simp [D.pl] at ha; done) | skip) <;> simp [tyD] at hta <;> subst hta <;> first | exact absurd e (by decide) | simp
    | int b =>
      walk_at "x"
      refine s_seq ?_
      walk_at "x"
      refine ⟨fun e => (nomatch e), fun _ => ?_⟩
      refine s_seq ?_
      walk_at "x"
      walk_at "x"
      refine ⟨fun e => (nomatch e), fun _ => ?_⟩
      refine s_seq ?_
      walk_at "x"
      walk_at "x"
      refine ⟨fun e => (nomatch e), fun _ => ?_⟩
      refine s_seq ?_
      walk_at "x"
      walk_at "x"
      refine ⟨fun _ => ?_, fun e => nomatch e⟩
      walk_at "x"
      refine isi "int" (by decide) ?_
      refine ⟨_, rfl, fun e => ?_, fun e => ?_⟩
      · walk_at "x"
        refine isi "bool" (by decide) ?_
        refine ⟨_, rfl, ?_⟩
        refine ⟨_, rfl, fun e2 => ?_, fun e2 => ?_⟩
        · walk_at "x"
          cases a <;> (first | (simp [D.pl] at ha; done) | skip) <;> simp [tyD] at hta <;> subst hta <;> first | exact absurd e (by decide) | exact absurd e2 (by decide) | skip
          next b' => exact x_some (d := .bl (decide (b' = b))) rfl ⟨by simp, rfl⟩
        · refine ⟨?_, rfl⟩
          cases a <;> (first | (simp [D.pl] at ha; done) | skip) <;> simp [tyD] at hta <;> subst hta <;> first | exact absurd e2 (by decide) | simp
      · refine ⟨?_, rfl⟩
        cases a <;> (first | (simp [D.pl] at ha; done) | skip) <;> simp [tyD] at hta <;> subst hta <;> first | exact absurd e (by decide) | simp
    | str b =>
      walk_at "x"
      refine s_seq ?_
      walk_at "x"
      refine ⟨fun e => (nomatch e), fun _ => ?_⟩
      refine s_seq ?_
      walk_at "x"
      walk_at "x"
      refine ⟨fun e => (nomatch e), fun _ => ?_⟩
      refine s_seq ?_
      walk_at "x"
      walk_at "x"
      refine ⟨fun e => (nomatch e), fun _ => ?_⟩
      refine s_seq ?_
      walk_at "x"
      walk_at "x"
      refine ⟨fun e => (nomatch e), fun _ => ?_⟩
      walk_at "x"
      refine isi "str" (by decide) ?_
      refine ⟨_, rfl, fun e => ?_, fun e => ?_⟩
      · walk_at "x"
        cases a <;> (first | (simp [D.pl] at ha; done) | skip) <;> simp [tyD] at hta <;> subst hta <;> first | exact absurd e (by decide) | skip
        next b' => exact x_some (d := .bl (decide (b' = b))) rfl ⟨by simp, rfl⟩
      · refine ⟨?_, rfl⟩
        cases a <;> (first | (simp [D.pl] at ha; done) | skip) <;> simp [tyD] at hta <;> subst hta <;> first | exact absurd e (by decide) | simp
    | tup ys =>
      walk_at "x"
      refine s_seq ?_
      walk_at "x"
      refine ⟨fun e => (nomatch e), fun _ => ?_⟩
      refine s_seq ?_
      walk_at "x"
      walk_at "x"
      refine ⟨fun _ => ?_, fun e => nomatch e⟩
      refine s_seq ?_
      walk_at "x"
      refine isi "tuple" (by decide) ?_
      walk_at "x"
      refine ⟨fun e => ?_, fun e => ?_⟩
      · refine ⟨fun _ => ?_, ?_⟩; rotate_left; (intro e; cases e)
        walk_at "x"
        refine ⟨?_, rfl⟩
        cases a <;> (first | (simp [D.pl] at ha; done) | skip) <;> simp [tyD] at hta <;> subst hta <;> first | exact absurd e (by decide) | simp
      · have hx : ∃ xs, a = .tup xs := by
          cases a <;> (first | (simp [D.pl] at ha; done) | skip) <;> simp [tyD] at hta <;> subst hta <;> first | exact absurd e (by decide) | exact ⟨_, rfl⟩
        obtain ⟨xs, rfl⟩ := hx
        clear isi hta
        rw [D.pl, Bool.and_eq_true_iff] at ha hb
        have hl : ys.length ≤ 1000000 := decide_eq_true_iff.mp hb.1
        walk_at "x"
        refine ⟨fun e2 => ?_, fun e2 => ?_⟩
        · walk_at "x"
          refine ⟨?_, rfl⟩
          have ne : xs.length ≠ ys.length := by
            have := of_decide_eq_true (p := (xs.length : Int) ≠ ys.length) (by simpa using e2)
            omega
          have : D.tup xs ≠ D.tup ys := fun z => ne (by rw [D.tup.inj z])
          simp [this]
        have el : xs.length = ys.length := by
          have := of_decide_eq_true (p := (xs.length : Int) = ys.length) (by simpa using e2)
          omega
        walk_at "x"
        dsimp only
        skip
        with_reducible refine s_seq ?_
        with_reducible refine s_forI (fun pre post e h' => h' = h ∧ (∃ z, e = [some (.tup xs), some (.tup ys), z]) ∧ pre.length + post.length = ys.length ∧ ∀ k, k < pre.length → xs[k]? = ys[k]?) ?_
        have go : ∀ {P : List D × (Hap → Prop) → Hap → Prop}, P (rngL 0 (ys.length : Int).toNat, fun _ => True) h → Sat (mRng rng1 (mCons (mCB dLen (mCons (mVar 1) mNil)) mNil) (env0 3 [.tup xs, .tup ys]) h) P := by
          intro P p
          have hl2 := hl
          clear hl ha hb hn el e2
          generalize hq : (ys.length : Int) = q at p
          have q0 : (0 : Int) ≤ q ∧ q ≤ 1000000 := ⟨by omega, by omega⟩
          have dl : dLen [.tup ys] h = some (.int q) := by
            rw [← hq]
            rfl
          with_reducible refine x_rng ?_
          with_reducible refine x_cons ?_
          with_reducible refine x_cb ?_
          with_reducible refine x_cons ?_
          with_reducible refine y_var ?_
          refine ⟨_, rfl, ?_⟩
          with_reducible refine x_nil ?_
          with_reducible refine x_some dl ?_
          with_reducible refine x_nil ?_
          with_reducible exact x_rng1 (by omega) p
        have lr : (rngL 0 (ys.length : Int).toNat).length = ys.length := by simp [rngL]
        with_reducible refine go ?_
        refine ⟨⟨rfl, ⟨_, rfl⟩, by rw [List.length_nil, lr]; omega, fun k hk => absurd hk (by simp)⟩, fun _ _ _ _ _ _ => trivial, ?_, ?_⟩
        · rintro pre x post e h2 hx ⟨rfl, ⟨z, rfl⟩, hlen, hk⟩
          rw [List.length_cons] at hlen
          have hp : pre.length < ys.length := by omega
          have ex : x = .int (0 + (pre.length : Int)) := by
            have hx2 : rngL 0 (ys.length : Int).toNat = pre ++ x :: post := hx
            have q : (rngL 0 (ys.length : Int).toNat)[pre.length]? = some x := by rw [hx2]; simp
            have q2 : (rngL 0 (ys.length : Int).toNat)[pre.length]? = some (.int (0 + (pre.length : Int))) := by simp [rngL, hp]
            exact Option.some.inj (q.symm.trans q2)
          subst ex
          obtain ⟨u, hu⟩ : ∃ u, xs[pre.length]? = some u := ⟨_, List.getElem?_eq_getElem (by omega)⟩
          obtain ⟨v, hv⟩ : ∃ v, ys[pre.length]? = some v := ⟨_, List.getElem?_eq_getElem hp⟩
          refine ⟨_, rfl, ?_⟩
          walk_at "x"
          refine x_some (d := u) (at_nat hu) ?_
          walk_at "x"
          refine x_some (d := v) (at_nat hv) ?_
          walk_at "x"
          have sv := szs_at hv
          have hsz : (D.tup ys).sz = D.szs ys + 1 := by simp [D.sz]
          refine (same_all n u v h2 (by omega) (pls_at ha.2 hu) (pls_at hb.2 hv)).mono fun d h3 z => ?_
          obtain ⟨rfl, rfl⟩ := z
          walk_at "x"
          refine ⟨fun e3 => ?_, fun e3 => ?_⟩
          · walk_at "x"
            have ne : u ≠ v := by simpa using e3
            refine ⟨?_, rfl⟩
            have : D.tup xs ≠ D.tup ys := fun z => ne (by
              rw [D.tup.inj z] at hu
              rw [hu] at hv
              exact Option.some.inj hv)
            simp [this]
          · have eq : u = v := by simpa using e3
            refine ⟨rfl, ⟨_, rfl⟩, by rw [List.length_append, List.length_singleton]; omega, fun k hk2 => ?_⟩
            rw [List.length_append, List.length_singleton] at hk2
            by_cases hkk : k < pre.length
            · exact hk k hkk
            · have : k = pre.length := by omega
              rw [this, hu, hv, eq]
        · rintro e h2 ⟨rfl, ⟨z, rfl⟩, _, hk⟩
          walk_at "x"
          refine ⟨?_, rfl⟩
          have : xs = ys := List.ext_getElem? fun k => by
            by_cases hk2 : k < ys.length
            · exact hk k (by rw [lr]; exact hk2)
            · rw [List.getElem?_eq_none (by omega), List.getElem?_eq_none (by omega)]
          rw [this]
          simp
theorem same_k {a b : D} {h : Hap} {P : D → Hap → Prop} (hs : b.sz < 12) (ha : a.pl = true) (hb : b.pl = true) (k : P (.bl (decide (a = b))) h) : Sat (Mi.m_law_same [a, b] h) P :=
  (same_all 12 a b h hs ha hb).mono fun d h' ⟨e1, e2⟩ => by
    subst e1 e2
    exact k
end Vi

set_option Elab.async false
set_option linter.all false
set_option autoImplicit false
set_option maxRecDepth 100000
set_option maxHeartbeats 2000000
namespace Vi
open PySem PySem.Spec PyProof.Rows L2
open scoped Classical
local macro_rules | `(tactic| walk_at "x1") => `(tactic| with_reducible first
  | refine x_bin ?_ | refine x_tst ?_ | refine x_oB ?_ | refine x_c ?_ | refine s_seqA ?_ | refine s_seqU ?_ | refine s_seqE ?_ | refine s_seqN ?_ | refine s_seqD ?_ | refine s_seqF ?_ | refine s_seqL ?_ | refine s_asg' ?_ | refine s_if' ?_ | refine s_ret' ?_ | refine s_exp' ?_ | refine s_next ?_ | refine s_retN' ?_ | refine s_sub' ?_ | refine s_dsub' ?_ | refine s_setF' ?_ | refine s_ddel' ?_
  | refine x_cb ?_ | refine x_cons ?_ | refine x_nil ?_ | refine x_call ?_ | refine x_met ?_ | refine x_meth ?_ | refine x_make ?_ | refine x_fld ?_ | refine x_un ?_ | refine x_notT ?_ | refine x_andT ?_ | refine x_orT ?_ | refine x_and ?_ | refine x_or ?_ | refine x_not ?_ | refine x_if ?_
  | refine x_tup ?_ | refine x_lst ?_ | refine x_cel ?_ | refine x_dnew ?_ | refine x_sortIt ?_ | refine x_sl ?_ | refine x_noP ?_ | refine x_part ?_ | refine x_oI ?_ | refine x_mI ?_ | refine x_rng ?_ | refine x_yes ?_ | refine x_chn ?_ | refine x_fun ?_ | refine x_ok ?_)
local macro_rules | `(tactic| walk_at "x2") => `(tactic| first
  | ((with_reducible refine y_var ?_); refine ⟨_, rfl, ?_⟩)
  | ((with_reducible refine y_some ?_); refine ⟨_, rfl, ?_⟩)
  | ((with_reducible refine y_gP ?_); refine ⟨_, rfl, ?_⟩))
local macro_rules | `(tactic| walk_at "x") => `(tactic| repeat (first | walk_at "x1" | walk_at "x2" ))
local macro_rules | `(tactic| walk_at "nx") => `(tactic| (refine next_k (by assumption) (by assumption) (by first | decide | omega) (by first | decide | omega) ?_))

/-! ### in, of texts -/
theorem in_ref {x : Str} {i : Nat} {ys : List Str} {h : Hap} (e : h[i]? = some (.lst (ys.map .str))) : inO (.str x) (.ref i) h = some (decide (x ∈ ys)) := by
  have fl : fls (ys.map D.str) = some (ys.map V.str) := by
    clear e
    induction ys with
    | nil => rfl
    | cons y ys ih => rw [List.map_cons, fls, ih]; rfl
  have e2 : inV (.str x) (ys.map V.str) = decide (x ∈ ys) := by
    unfold inV
    rw [Bool.eq_iff_iff, List.any_eq_true, decide_eq_true_iff]
    constructor
    · rintro ⟨v, m, q⟩
      obtain ⟨y, m2, rfl⟩ := List.mem_map.mp m
      have q : (y == x) = true := q
      rw [← beq_iff_eq.mp q]
      exact m2
    · intro m
      exact ⟨.str x, List.mem_map.mpr ⟨x, m, rfl⟩, (beq_self_eq_true x : (x == x) = true)⟩
  show (match (D.str x).fl, (getQ (.ref i) h).bind fls with
    | some x, some xs => some (inV x xs)
    | _, _ => none) = _
  have : getQ (.ref i) h = some (ys.map .str) := by simp [getQ, getL, e]
  rw [this, Option.bind_some, fl]
  exact congrArg some e2
/-! ### rows of signatures -/
abbrev Sg := Str × Str × Str
def sgD (r : Sg) : D := .tup [.str r.1, .str r.2.1, .str r.2.2]
def sgE (r : Sg) : D := .tup [.str r.2.1, .str r.2.2]
def sgK (r : Sg) : Key × D := (.inr r.1, sgE r)
def oks (r : Sg) : Prop := okS r.1 ∧ okS r.2.1 ∧ okS r.2.2
theorem eqv_sg (p q : Sg) : PyData.eqv (.tuple [.str p.1, .str p.2.1, .str p.2.2]) (.tuple [.str q.1, .str q.2.1, .str q.2.2]) = decide (p = q) := by
  have : PyData.eqv (.tuple [.str p.1, .str p.2.1, .str p.2.2]) (.tuple [.str q.1, .str q.2.1, .str q.2.2]) = ((p.1 == q.1) && ((p.2.1 == q.2.1) && ((p.2.2 == q.2.2) && true))) := rfl
  rw [this, Bool.eq_iff_iff]
  simp [Prod.ext_iff]
theorem in_sgs {acc : List Sg} {p : Sg} {i : Nat} {g : Hap} (hg : g[i]? = some (.lst (acc.map sgD))) (ha : ∀ q ∈ acc, oks q) (hp : oks p) : dInD (sgD p) (.ref i) g = some (.bl (decide (p ∈ acc))) := by
  have e1 : pyOf (sgD p) g = some (.tuple [.str p.1, .str p.2.1, .str p.2.2]) := rfl
  have e2 : D.pys (acc.map sgD) = some (acc.map fun q => .tuple [.str q.1, .str q.2.1, .str q.2.2]) := by
    clear hg ha
    induction acc with
    | nil => rfl
    | cons q acc ih =>
      rw [List.map_cons, List.map_cons, D.pys, ih]
      rfl
  have e3 : pyOf (.ref i) g = some (.list (acc.map fun q => .tuple [.str q.1, .str q.2.1, .str q.2.2])) := by
    show (match g[i]? with | some (.lst xs) => (D.pys xs).map PyData.list | _ => none) = _
    rw [hg]
    simp only []
    rw [e2]
    rfl
  have s1 : SeqAt.shaped (.tuple [.str p.1, .str p.2.1, .str p.2.2]) = true := by
    have o1 : PyData.strOk p.1 = true := hp.1
    have o2 : PyData.strOk p.2.1 = true := hp.2.1
    have o3 : PyData.strOk p.2.2 = true := hp.2.2
    unfold SeqAt.shaped
    simp [PyData.canLay0, PyData.canLayAll0, o1, o2, o3, PyData.depth, PyData.depthAll]
  have s2 : SeqAt.shaped (.list (acc.map fun q => .tuple [.str q.1, .str q.2.1, .str q.2.2])) = true := by
    have c1 : PyData.canLayAll0 (acc.map fun q => .tuple [.str q.1, .str q.2.1, .str q.2.2]) = true ∧ PyData.depthAll (acc.map fun q => .tuple [.str q.1, .str q.2.1, .str q.2.2]) ≤ 1 := by
      clear hg e2 e3
      induction acc with
      | nil => exact ⟨rfl, by decide⟩
      | cons q acc ih =>
        have o1 : PyData.strOk q.1 = true := (ha q List.mem_cons_self).1
        have o2 : PyData.strOk q.2.1 = true := (ha q List.mem_cons_self).2.1
        have o3 : PyData.strOk q.2.2 = true := (ha q List.mem_cons_self).2.2
        obtain ⟨i1, i2⟩ := ih fun x m => ha x (List.mem_cons_of_mem _ m)
        refine ⟨by simp [PyData.canLayAll0, PyData.canLay0, o1, o2, o3, i1], ?_⟩
        simp [PyData.depthAll, PyData.depth]
        omega
    unfold SeqAt.shaped
    rw [PyData.canLay0, c1.1, PyData.depth, decide_eq_true (by have := c1.2; omega)]
    rfl
  unfold dInD inDO
  rw [e1, e3]
  simp only []
  rw [if_pos ⟨s1, s2⟩, Option.map_some]
  congr 2
  rw [List.any_map, Bool.eq_iff_iff, List.any_eq_true, decide_eq_true_iff]
  constructor
  · rintro ⟨q, m, e⟩
    have e : PyData.eqv (.tuple [.str q.1, .str q.2.1, .str q.2.2]) (.tuple [.str p.1, .str p.2.1, .str p.2.2]) = true := e
    rw [eqv_sg] at e
    rw [← of_decide_eq_true e]
    exact m
  · intro m
    exact ⟨p, m, by show PyData.eqv _ _ = true; rw [eqv_sg]; exact decide_eq_true rfl⟩
def getS (sg : List Sg) (t : Str) : Option Sg := sg.find? fun r => decide (r.1 = t)
theorem val_sg (rows : List Sg) (t : Str) : valD (rows.map sgK) (.inr t) = (getS rows t).map sgE := by
  unfold valD getS
  induction rows with
  | nil => rfl
  | cons r rows ih =>
    rw [List.map_cons, List.find?_cons, List.find?_cons]
    by_cases e : r.1 = t
    · have : decide ((sgK r).1 = (Sum.inr t : Key)) = true := decide_eq_true (by show (Sum.inr r.1 : Key) = _; rw [e])
      rw [this, decide_eq_true e]
      rfl
    · have : decide ((sgK r).1 = (Sum.inr t : Key)) = false := decide_eq_false fun z => e (Sum.inr.inj z)
      rw [this, decide_eq_false e]
      exact ih
theorem get_mem {sg : List Sg} (hn : (sg.map Prod.fst).Nodup) (t a b : Str) : (getS sg t = none ∧ (t, a, b) ∉ sg) ∨ ∃ r, getS sg t = some r ∧ ((t, a, b) ∈ sg ↔ (r.2.1 = a ∧ r.2.2 = b)) := by
  unfold getS
  cases q : sg.find? fun r => decide (r.1 = t) with
  | none =>
    refine .inl ⟨rfl, fun m => ?_⟩
    have := List.find?_eq_none.mp q _ m
    simp at this
  | some r =>
    have m := List.mem_of_find?_eq_some q
    have e : r.1 = t := of_decide_eq_true (List.find?_some (p := fun r : Sg => decide (r.1 = t)) q)
    refine .inr ⟨r, rfl, fun m2 => ?_, fun ⟨e1, e2⟩ => ?_⟩
    · have hp := List.pairwise_map.mp hn
      have go : ∀ {l : List Sg}, l.Pairwise (fun a b => a.1 ≠ b.1) → ∀ a ∈ l, ∀ b ∈ l, a.1 = b.1 → a = b := by
        intro l
        induction l with
        | nil => intro _ a m; simp at m
        | cons x l ih =>
          intro hp a ma b mb e
          rw [List.pairwise_cons] at hp
          rcases List.mem_cons.mp ma with e1 | m1
          · rcases List.mem_cons.mp mb with e2 | m2
            · rw [e1, e2]
            · exact absurd (by rw [← e1]; exact e) (hp.1 b m2)
          · rcases List.mem_cons.mp mb with e2 | m2
            · exact absurd (by rw [← e2]; exact e.symm) (hp.1 a m1)
            · exact ih hp.2 a m1 b m2 e
      have := go hp r m _ m2 e
      rw [this]
      exact ⟨rfl, rfl⟩
    · have : r = (t, a, b) := by rw [← e, ← e1, ← e2]
      rw [← this]; exact m
/-! ### the layout -/
abbrev tls (need : Int) (hs rv : List Str) (sg : List Sg) : Hap :=
  [.ins "Roster" [("need", .int need), ("_houses", .ref 2), ("_strikes", .ref 3), ("_signed", .ref 4), ("_voices", .ref 5), ("_claims", .ref 6)],
   .dct (hs.map fun x => (.inr x, .bl (decide (x ∈ rv)))), .dct (hs.map fun x => (.inr x, .int 0)), .dct (sg.map sgK), .dct [], .dct [],
   .lst (hs.map .str), .lst (rv.map .str), .lst (sg.map sgD)]
structure Ro (hs rv : List Str) (sg : List Sg) : Prop where
  hn : hs.Nodup
  hl : hs.length ≤ 20
  ho : ∀ x ∈ hs, okS x ∧ x.length ≤ 30
  rs : ∀ x ∈ rv, x ∈ hs
  rl : rv.length ≤ 200
  sn : (sg.map Prod.fst).Nodup
  sl : sg.length ≤ 200
  so : ∀ r ∈ sg, oks r
  sz : ∀ r ∈ sg, r.1.length ≤ 60 ∧ r.2.1.length ≤ 30 ∧ r.2.2.length ≤ 30
theorem val_hs (hs : List Str) (f : Str → D) (x : Str) : valD (hs.map fun x => ((.inr x : Key), f x)) (.inr x) = if x ∈ hs then some (f x) else none := by
  unfold valD
  induction hs with
  | nil => rfl
  | cons y hs ih =>
    rw [List.map_cons, List.find?_cons]
    by_cases e : y = x
    · subst e
      simp
    · have : decide ((Sum.inr y : Key) = .inr x) = false := decide_eq_false fun z => e (Sum.inr.inj z)
      simp only [this]
      rw [ih]
      have : (x ∈ y :: hs) ↔ x ∈ hs := by simp [Ne.symm e]
      simp only [this]
theorem put_new {hs : List Str} {f : Str → D} {x : Str} {d : D} (h : x ∉ hs) : putD (hs.map fun x => ((.inr x : Key), f x)) (.inr x) d = (hs.map fun x => ((.inr x : Key), f x)) ++ [(.inr x, d)] := by
  unfold putD
  rw [if_neg]
  intro z
  obtain ⟨kv, m, e⟩ := List.any_eq_true.mp z
  obtain ⟨r, mr, rfl⟩ := List.mem_map.mp m
  exact h (by rw [← Sum.inr.inj (of_decide_eq_true e)]; exact mr)
theorem put_old {hs : List Str} {f : Str → D} {x : Str} {d : D} (h : x ∈ hs) : putD (hs.map fun x => ((.inr x : Key), f x)) (.inr x) d = hs.map fun y => ((.inr y : Key), if y = x then d else f y) := by
  unfold putD
  rw [if_pos (List.any_eq_true.mpr ⟨(.inr x, f x), List.mem_map.mpr ⟨x, h, rfl⟩, by simp⟩), List.map_map]
  refine List.map_congr_left fun y _ => ?_
  show (if (Sum.inr y : Key) = .inr x then _ else _) = _
  by_cases e : y = x
  · rw [if_pos (by rw [e]), if_pos e]
  · rw [if_neg (fun z => e (Sum.inr.inj z)), if_neg e]
end Vi

set_option Elab.async false
set_option linter.all false
set_option autoImplicit false
set_option maxRecDepth 100000
set_option maxHeartbeats 2000000
namespace Vi
open PySem PySem.Spec PyProof.Rows L2
open scoped Classical
local macro_rules | `(tactic| walk_at "x1") => `(tactic| with_reducible first
  | refine x_bin ?_ | refine x_tst ?_ | refine x_oB ?_ | refine x_c ?_ | refine s_seqA ?_ | refine s_seqU ?_ | refine s_seqE ?_ | refine s_seqN ?_ | refine s_seqD ?_ | refine s_seqF ?_ | refine s_seqL ?_ | refine s_asg' ?_ | refine s_if' ?_ | refine s_ret' ?_ | refine s_exp' ?_ | refine s_next ?_ | refine s_retN' ?_ | refine s_sub' ?_ | refine s_dsub' ?_ | refine s_setF' ?_ | refine s_ddel' ?_
  | refine x_cb ?_ | refine x_cons ?_ | refine x_nil ?_ | refine x_call ?_ | refine x_met ?_ | refine x_meth ?_ | refine x_make ?_ | refine x_fld ?_ | refine x_un ?_ | refine x_notT ?_ | refine x_andT ?_ | refine x_orT ?_ | refine x_and ?_ | refine x_or ?_ | refine x_not ?_ | refine x_if ?_
  | refine x_tup ?_ | refine x_lst ?_ | refine x_cel ?_ | refine x_dnew ?_ | refine x_sortIt ?_ | refine x_sl ?_ | refine x_noP ?_ | refine x_part ?_ | refine x_oI ?_ | refine x_mI ?_ | refine x_rng ?_ | refine x_yes ?_ | refine x_chn ?_ | refine x_fun ?_ | refine x_ok ?_)
local macro_rules | `(tactic| walk_at "x2") => `(tactic| first
  | ((with_reducible refine y_var ?_); refine ⟨_, rfl, ?_⟩)
  | ((with_reducible refine y_some ?_); refine ⟨_, rfl, ?_⟩)
  | ((with_reducible refine y_gP ?_); refine ⟨_, rfl, ?_⟩))
local macro_rules | `(tactic| walk_at "x") => `(tactic| repeat (first | walk_at "x1" | walk_at "x2" ))
local macro_rules | `(tactic| walk_at "nx") => `(tactic| (refine next_k (by assumption) (by assumption) (by first | decide | omega) (by first | decide | omega) ?_))

section
variable {env : Env} {h : Hap} {Q : Ps} {F : EXS}
theorem XM.bind {c nm : Str} {m : MF} {o : ME} {a : MA} {k : D → Hap → RS} (s : Sat (o env h) fun x h1 => isI c nm x h1 = true ∧ Sat (a env h1) fun xs h2 => SatX (m (x :: xs) h2) (fun d h3 => SatSX (k d h3) Q F) fun cc fs h3 => F cc fs env h3) : SatSX (RsS (mMeth c nm m o a env h) env k) Q F := by
  obtain ⟨x, h1, e, i, s⟩ := s.ex
  obtain ⟨xs, h2, e2, s⟩ := s.ex
  unfold mMeth
  rw [e]
  simp only [Rs.bind]
  rw [if_pos i, e2]
  simp only [Rs.bind]
  revert s
  cases m (x :: xs) h2 with
  | ok d h3 => exact fun s => s
  | err cc fs h3 => exact fun s => s
  | stuck => exact fun s => s.elim
theorem XM.exp {c nm : Str} {m : MF} {o : ME} {a : MA} (s : Sat (o env h) fun x h1 => isI c nm x h1 = true ∧ Sat (a env h1) fun xs h2 => SatX (m (x :: xs) h2) (fun _ h3 => Q.n env h3) fun cc fs h3 => F cc fs env h3) : SatSX (mExp (mMeth c nm m o a) env h) Q F := XM.bind s
theorem XM.ret {c nm : Str} {m : MF} {o : ME} {a : MA} (s : Sat (o env h) fun x h1 => isI c nm x h1 = true ∧ Sat (a env h1) fun xs h2 => SatX (m (x :: xs) h2) Q.r fun cc fs h3 => F cc fs env h3) : SatSX (mRet (mMeth c nm m o a) env h) Q F := XM.bind s
theorem x_js {bs : List ME} {P : D → Hap → Prop} (s : Sat (jsL bs Str.empty env h) P) : Sat (mJs bs env h) P := s
theorem x_js0 {acc : Str} {P : D → Hap → Prop} (p : P (.str acc) h) : Sat (jsL [] acc env h) P := p
theorem x_js1 {b : ME} {bs : List ME} {acc : Str} {P : D → Hap → Prop} (s : Sat (b env h) fun d h1 => ∃ y, d = .str y ∧ acc.length + y.length ≤ sizeLine ∧ Sat (jsL bs (acc ++ y) env h1) P) : Sat (jsL (b :: bs) acc env h) P := Sat.bind (s.mono fun d h1 ⟨y, e, hl, s⟩ => by
  subst e
  show Sat (if acc.length + y.length ≤ sizeLine then _ else _) P
  rw [if_pos hl]
  exact s)
theorem x_fm {b : ME} {P : D → Hap → Prop} (s : Sat (b env h) fun d h1 => ∃ y, fmtD d = some y ∧ P (.str y) h1) : Sat (mFm b env h) P := Sat.bind (s.mono fun d h1 ⟨y, e, p⟩ => x_some (d := .str y) (by rw [e]; rfl) p)
end
/-! ### numbers as texts -/
abbrev nmS (n : Int) : Str := Str.ofString (toString n)
theorem nm_small {m : Nat} (h : m < 100000) : (m : Int).natAbs.log2 < 1920 ∧ (nmS m).length ≤ 5 ∧ okS (nmS m) ∧ (∀ c ∈ TL.tl (nmS m), 48 ≤ c ∧ c ≤ 57) := by
  have es : (nmS (m : Int)).cps.toList = (Nat.toDigits 10 m).map Char.toNat := PySem.W.KIN.signs_num m
  have hd : ∀ c ∈ (nmS (m : Int)).cps.toList, 48 ≤ c ∧ c ≤ 57 := by
    intro c hc
    rw [es] at hc
    obtain ⟨d, hd, e⟩ := List.mem_map.mp hc
    have r := PyProof.Rows.digit_range (Nat.isDigit_of_mem_toDigits (by decide) (by decide) hd)
    rw [← e]
    exact r
  refine ⟨?_, ?_, okS_iff.mpr fun c m => by have := hd c m; omega, hd⟩
  · have : (m : Int).natAbs = m := rfl
    rw [this]
    by_cases h0 : m = 0
    · subst h0; decide
    · have : m.log2 < 17 := (Nat.log2_lt h0).mpr (by omega)
      omega
  · rw [← len_list, es, List.length_map]
    exact PyProof.Rows.digits10_le (k := 5) (by decide) (by omega)
theorem nm_inj {m n : Nat} (hm : m < 100000) (hn : n < 100000) (e : nmS (m : Int) = nmS (n : Int)) : m = n := by
  have a := PySem.W.KIN.num_reads (n := (m : Int)) (by omega) (by omega)
  have b := PySem.W.KIN.num_reads (n := (n : Int)) (by omega) (by omega)
  have e : Str.ofString (toString (m : Int)) = Str.ofString (toString (n : Int)) := e
  rw [e, b] at a
  injection a with a
  omega
abbrev DS : Str := "-"
def mk (x : Str) (n : Nat) : Str := x ++ DS ++ nmS (n : Int)
theorem ds_tl : TL.tl DS = [45] := by decide +kernel
theorem mk_inj {x y : Str} {m n : Nat} (hm : m < 100000) (hn : n < 100000) (e : mk x m = mk y n) : m = n := by
  refine nm_inj hm hn (TL.ext_tl ?_)
  have e := congrArg TL.tl e
  unfold mk at e
  rw [TL.tl_append, TL.tl_append, TL.tl_append, TL.tl_append, ds_tl] at e
  have d1 := (nm_small hm).2.2.2
  have d2 := (nm_small hn).2.2.2
  generalize TL.tl (nmS (m : Int)) = a at *
  generalize TL.tl (nmS (n : Int)) = b at *
  -- what stands behind the last 45
  have cut : ∀ (p q : List Nat), (∀ c ∈ q, 48 ≤ c ∧ c ≤ 57) → ((p ++ [45] ++ q).reverse.takeWhile fun c => decide (c ≠ 45)) = q.reverse := by
    intro p q hq
    rw [List.reverse_append, List.reverse_append, List.takeWhile_append_of_pos (fun c mc => by
      have := hq c (List.mem_reverse.mp mc)
      exact decide_eq_true (by omega))]
    simp
  have c1 := cut (TL.tl x) a d1
  have c2 := cut (TL.tl y) b d2
  rw [e, c2] at c1
  exact (List.reverse_inj.mp c1).symm
end Vi

set_option Elab.async false
set_option linter.all false
set_option autoImplicit false
set_option maxRecDepth 100000
set_option maxHeartbeats 2000000
namespace Vi
open PySem PySem.Spec PyProof.Rows L2
open scoped Classical
local macro_rules | `(tactic| walk_at "x1") => `(tactic| with_reducible first
  | refine x_bin ?_ | refine x_tst ?_ | refine x_oB ?_ | refine x_c ?_ | refine s_seqA ?_ | refine s_seqU ?_ | refine s_seqE ?_ | refine s_seqN ?_ | refine s_seqD ?_ | refine s_seqF ?_ | refine s_seqL ?_ | refine s_asg' ?_ | refine s_if' ?_ | refine s_ret' ?_ | refine s_exp' ?_ | refine s_next ?_ | refine s_retN' ?_ | refine s_sub' ?_ | refine s_dsub' ?_ | refine s_setF' ?_ | refine s_ddel' ?_
  | refine x_cb ?_ | refine x_cons ?_ | refine x_nil ?_ | refine x_call ?_ | refine x_met ?_ | refine x_meth ?_ | refine x_make ?_ | refine x_fld ?_ | refine x_un ?_ | refine x_notT ?_ | refine x_andT ?_ | refine x_orT ?_ | refine x_and ?_ | refine x_or ?_ | refine x_not ?_ | refine x_if ?_
  | refine x_tup ?_ | refine x_lst ?_ | refine x_cel ?_ | refine x_dnew ?_ | refine x_sortIt ?_ | refine x_sl ?_ | refine x_noP ?_ | refine x_part ?_ | refine x_oI ?_ | refine x_mI ?_ | refine x_rng ?_ | refine x_yes ?_ | refine x_chn ?_ | refine x_fun ?_ | refine x_ok ?_)
local macro_rules | `(tactic| walk_at "x2") => `(tactic| first
  | ((with_reducible refine y_var ?_); refine ⟨_, rfl, ?_⟩)
  | ((with_reducible refine y_some ?_); refine ⟨_, rfl, ?_⟩)
  | ((with_reducible refine y_gP ?_); refine ⟨_, rfl, ?_⟩))
local macro_rules | `(tactic| walk_at "x") => `(tactic| repeat (first | walk_at "x1" | walk_at "x2" ))
local macro_rules | `(tactic| walk_at "nx") => `(tactic| (refine next_k (by assumption) (by assumption) (by first | decide | omega) (by first | decide | omega) ?_))

/-- ASCII -/
def asc (z : Str) : Prop := ∀ c ∈ TL.tl z, c < 128
abbrev rf (need : Int) : List (Str × D) := [("need", .int need), ("_houses", .ref 2), ("_strikes", .ref 3), ("_signed", .ref 4), ("_voices", .ref 5), ("_claims", .ref 6)]
abbrev rost (need : Int) (hs rv : List Str) (sg : List Sg) : Hap :=
  [.ins "Roster" (rf need),
   .dct (hs.map fun x => (.inr x, .bl (decide (x ∈ rv)))), .dct (hs.map fun x => (.inr x, .int 0)), .dct (sg.map sgK), .dct [], .dct []]
structure Rq (hs rv : List Str) (sg : List Sg) : Prop where
  hn : hs.Nodup
  hl : hs.length ≤ 20
  ho : ∀ x ∈ hs, okS x ∧ x.length ≤ 30
  rs : ∀ x ∈ rv, x ∈ hs
  rl : rv.length ≤ 200
  sn : (sg.map Prod.fst).Nodup
  sl : sg.length ≤ 200
  so : ∀ r ∈ sg, oks r
  sz : ∀ r ∈ sg, r.1.length ≤ 60 ∧ r.2.1.length ≤ 30 ∧ r.2.2.length ≤ 30
  sf : ∀ i r, sg[i]? = some r → r.1 = mk r.2.1 (i + 1)
  sa : ∀ r ∈ sg, asc r.1
theorem sdix_at {h : Hap} {j : Nat} {kvs : List (Key × D)} {x : Str} {v : D} (e : h[j]? = some (.dct kvs)) (hl : kvs.length ≤ 1000000) : sDix (.ref j) (.str x) v h = some (h.set j (.dct (putD kvs (.inr x) v))) := by
  unfold sDix
  simp only [keyD]
  rw [e]
  simp only []
  rw [if_pos (by rw [sizeLine_eq]; omega)]
section
variable {need : Int} {hs rv : List Str} {sg : List Sg} {s0 : Cel} {u : Hap} {P : D → Hap → Prop} {E : EX} {x tx mkt : Str}
theorem gd2 : getD (.ref 2) (s0 :: (rost need hs rv sg ++ u)) = some (hs.map fun x => (.inr x, .bl (decide (x ∈ rv)))) := dct_at rfl
theorem gd4 : getD (.ref 4) (s0 :: (rost need hs rv sg ++ u)) = some (sg.map sgK) := dct_at rfl
theorem revoked_k (hr : ∀ y ∈ rv, y ∈ hs) (k : P (.bl (decide (x ∈ rv))) (s0 :: (rost need hs rv sg ++ u))) : Sat (Mi.m_Roster_is_revoked [.ref 1, .str x] (s0 :: (rost need hs rv sg ++ u))) P := by
  unfold Mi.m_Roster_is_revoked Mi.b_Roster_is_revoked
  walk_at "x"
  refine ⟨isd_at (kvs := hs.map fun x => (.inr x, .bl (decide (x ∈ rv)))) (by rfl), ?_⟩
  walk_at "x"
  have e : (valD (hs.map fun x => ((.inr x : Key), D.bl (decide (x ∈ rv)))) (.inr x)).getD (.bl false) = .bl (decide (x ∈ rv)) := by
    rw [val_hs hs fun x => .bl (decide (x ∈ rv))]
    by_cases hx : x ∈ hs
    · rw [if_pos hx]; rfl
    · rw [if_neg hx, decide_eq_false (fun m => hx (hr x m))]; rfl
  show P ((valD (hs.map fun x => ((.inr x : Key), D.bl (decide (x ∈ rv)))) (.inr x)).getD (.bl false)) _
  rw [e]
  exact k
theorem eq_pair {a b c d : Str} {h : Hap} (o1 : okS a) (o2 : okS b) (o3 : okS c) (o4 : okS d) : eqO (.tup [.str a, .str b]) (.tup [.str c, .str d]) h = some (decide (a = c ∧ b = d)) := by
  have p1 : PyData.strOk a = true := o1
  have p2 : PyData.strOk b = true := o2
  have p3 : PyData.strOk c = true := o3
  have p4 : PyData.strOk d = true := o4
  have s1 : SeqAt.shaped (.tuple [.str a, .str b]) = true := by
    unfold SeqAt.shaped
    simp [PyData.canLay0, PyData.canLayAll0, p1, p2, PyData.depth, PyData.depthAll]
  have s2 : SeqAt.shaped (.tuple [.str c, .str d]) = true := by
    unfold SeqAt.shaped
    simp [PyData.canLay0, PyData.canLayAll0, p3, p4, PyData.depth, PyData.depthAll]
  show (if SeqAt.shaped (.tuple [.str a, .str b]) = true ∧ SeqAt.shaped (.tuple [.str c, .str d]) = true then some (PyData.eqv (.tuple [.str a, .str b]) (.tuple [.str c, .str d])) else none) = _
  rw [if_pos ⟨s1, s2⟩]
  congr 1
  have : PyData.eqv (.tuple [.str a, .str b]) (.tuple [.str c, .str d]) = ((a == c) && ((b == d) && true)) := rfl
  rw [this, Bool.eq_iff_iff]
  simp
theorem eq_non {c d : Str} {h : Hap} (o3 : okS c) (o4 : okS d) : eqO .non (.tup [.str c, .str d]) h = some false := by
  have p3 : PyData.strOk c = true := o3
  have p4 : PyData.strOk d = true := o4
  have s2 : SeqAt.shaped (.tuple [.str c, .str d]) = true := by
    unfold SeqAt.shaped
    simp [PyData.canLay0, PyData.canLayAll0, p3, p4, PyData.depth, PyData.depthAll]
  show (if SeqAt.shaped .none = true ∧ SeqAt.shaped (.tuple [.str c, .str d]) = true then some (PyData.eqv .none (.tuple [.str c, .str d])) else none) = _
  rw [if_pos ⟨by decide, s2⟩]
  rfl
theorem counts_k (R : Rq hs rv sg) (o2 : okS x) (o3 : okS tx) (k : P (.bl (decide ((mkt, x, tx) ∈ sg) && !decide (x ∈ rv))) (s0 :: (rost need hs rv sg ++ u))) : Sat (Mi.m_Roster_counts [.ref 1, .str mkt, .str x, .str tx] (s0 :: (rost need hs rv sg ++ u))) P := by
  unfold Mi.m_Roster_counts Mi.b_Roster_counts
  walk_at "x"
  refine ⟨isd_at (kvs := sg.map sgK) (by rfl), ?_⟩
  walk_at "x"
  have fin : ∀ b : Bool, b = decide ((mkt, x, tx) ∈ sg) → ∃ t, D.bl b = D.bl t ∧ (t = true → Sat (mNot (mMeth "Roster" "is_revoked" Mi.m_Roster_is_revoked (mVar 0) (mCons (mVar 2) mNil)) (env0 4 [.ref 1, .str mkt, .str x, .str tx]) (s0 :: (rost need hs rv sg ++ u))) P) ∧ (t = false → P (.bl false) (s0 :: (rost need hs rv sg ++ u))) := fun b hb => by
    refine ⟨b, rfl, fun e => ?_, fun e => ?_⟩
    · rw [← hb, e, Bool.true_and] at k
      walk_at "x"
      refine ⟨isI_at (fs := rf need) (by rfl) (by rfl), ?_⟩
      walk_at "x"
      refine revoked_k R.rs ?_
      exact ⟨_, rfl, k⟩
    · rw [← hb, e, Bool.false_and] at k
      exact k
  rcases get_mem R.sn mkt x tx with ⟨g1, g2⟩ | ⟨r, g1, g2⟩
  · refine ⟨sl_le (by simp), ?_⟩
    rw [val_sg, g1]
    refine x_some (d := .bl false) (by show (eqO .non _ _).map D.bl = _; rw [eq_non o2 o3]; rfl) ?_
    exact fin false (by rw [decide_eq_false g2])
  · have m := List.mem_of_find?_eq_some g1
    refine ⟨sl_le (by simp), ?_⟩
    rw [val_sg, g1]
    have oq := R.so r m
    refine x_some (d := .bl (decide (r.2.1 = x ∧ r.2.2 = tx))) (by show (eqO (sgE r) _ _).map D.bl = _; unfold sgE; rw [eq_pair oq.2.1 oq.2.2 o2 o3]; rfl) ?_
    exact fin _ (by rw [Bool.eq_iff_iff, decide_eq_true_iff, decide_eq_true_iff]; exact g2.symm)
theorem houses_k (k : P (.tup (hs.map .str)) (s0 :: (rost need hs rv sg ++ u))) : Sat (Mi.m_Roster_houses [.ref 1] (s0 :: (rost need hs rv sg ++ u))) P := by
  unfold Mi.m_Roster_houses Mi.b_Roster_houses
  walk_at "x"
  walk_at "x"
  have e : ((hs.map fun x => ((.inr x : Key), D.bl (decide (x ∈ rv)))).map fun kv => keyV kv.1) = hs.map D.str := by
    rw [List.map_map]
    rfl
  show P (.tup ((hs.map fun x => ((.inr x : Key), D.bl (decide (x ∈ rv)))).map fun kv => keyV kv.1)) _
  rw [e]
  exact k
theorem is_hs (hs : List Str) (f : Str → D) (x : Str) : (valD (hs.map fun x => ((.inr x : Key), f x)) (.inr x)).isSome = decide (x ∈ hs) := by
  rw [val_hs hs f]
  by_cases hx : x ∈ hs
  · rw [if_pos hx, decide_eq_true hx]; rfl
  · rw [if_neg hx, decide_eq_false hx]; rfl
theorem hlen (hs rv : List Str) : (hs.map fun x => ((.inr x : Key), D.bl (decide (x ∈ rv)))).length = hs.length := by rw [List.length_map]
abbrev rp (z : Str) : Option (List (Str × D)) := some [("reason", .str z)]
theorem add_k (R : Rq hs rv sg) (k1 : x ∈ hs → E "RosterProblem" (rp "duplicate") (s0 :: (rost need hs rv sg ++ u))) (k2 : x ∉ hs → hs.length = 20 → E "RosterProblem" (rp "full") (s0 :: (rost need hs rv sg ++ u)))
    (k3 : x ∉ hs → hs.length ≠ 20 → P .non (s0 :: (rost need (hs ++ [x]) rv sg ++ u))) : SatX (Mi.m_Roster_add [.ref 1, .str x] (s0 :: (rost need hs rv sg ++ u))) P E := by
  unfold Mi.m_Roster_add Mi.b_Roster_add
  refine X.fn (X.seqX (X.ife ?_))
  walk_at "x"
  rw [is_hs hs fun x => .bl (decide (x ∈ rv))]
  refine ⟨fun e => ?_, fun e => ?_⟩
  · have e := of_decide_eq_true e
    refine X.raise ?_
    walk_at "x"
    exact ⟨rfl, by decide, k1 e⟩
  have hx := of_decide_eq_false e
  refine SatSX.of (s_next ?_)
  dsimp only
  refine X.seqX (X.ife ?_)
  walk_at "x"
  walk_at "x"
  rw [List.length_map]
  refine ⟨fun e => ?_, fun e => ?_⟩
  · have e : (hs.length : Int) = 20 := of_decide_eq_true e
    refine X.raise ?_
    walk_at "x"
    exact ⟨rfl, by decide, k2 hx (by omega)⟩
  have e : ¬ (hs.length : Int) = 20 := of_decide_eq_false e
  refine SatSX.of (s_next ?_)
  dsimp only
  refine SatSX.of ?_
  walk_at "x"
  have hxr : x ∉ rv := fun m => hx (R.rs x m)
  refine ⟨_, sdix_at (kvs := hs.map fun x => (.inr x, .bl (decide (x ∈ rv)))) (by rfl) (by rw [List.length_map]; have := R.hl; omega), ?_⟩
  rw [put_new (f := fun x => .bl (decide (x ∈ rv))) hx]
  walk_at "x"
  walk_at "x"
  refine ⟨_, sdix_at (kvs := hs.map fun x => (.inr x, .int 0)) (by rfl) (by rw [List.length_map]; have := R.hl; omega), ?_⟩
  rw [put_new (f := fun _ => .int 0) hx]
  have k3 := k3 hx (by omega)
  have e1 : (hs.map fun x => ((.inr x : Key), D.bl (decide (x ∈ rv)))) ++ [(.inr x, .bl false)] = (hs ++ [x]).map fun x => ((.inr x : Key), D.bl (decide (x ∈ rv))) := by
    rw [List.map_append, List.map_singleton, decide_eq_false hxr]
  have e2 : (hs.map fun x => ((.inr x : Key), D.int 0)) ++ [(.inr x, .int 0)] = (hs ++ [x]).map fun x => ((.inr x : Key), D.int 0) := by
    rw [List.map_append, List.map_singleton]
  rw [e1, e2]
  exact k3
end
end Vi

set_option Elab.async false
set_option linter.all false
set_option autoImplicit false
set_option maxRecDepth 100000
set_option maxHeartbeats 2000000
namespace Vi
open PySem PySem.Spec PyProof.Rows L2
open scoped Classical
local macro_rules | `(tactic| walk_at "x1") => `(tactic| with_reducible first
  | refine x_bin ?_ | refine x_tst ?_ | refine x_oB ?_ | refine x_c ?_ | refine s_seqA ?_ | refine s_seqU ?_ | refine s_seqE ?_ | refine s_seqN ?_ | refine s_seqD ?_ | refine s_seqF ?_ | refine s_seqL ?_ | refine s_asg' ?_ | refine s_if' ?_ | refine s_ret' ?_ | refine s_exp' ?_ | refine s_next ?_ | refine s_retN' ?_ | refine s_sub' ?_ | refine s_dsub' ?_ | refine s_setF' ?_ | refine s_ddel' ?_
  | refine x_cb ?_ | refine x_cons ?_ | refine x_nil ?_ | refine x_call ?_ | refine x_met ?_ | refine x_meth ?_ | refine x_make ?_ | refine x_fld ?_ | refine x_un ?_ | refine x_notT ?_ | refine x_andT ?_ | refine x_orT ?_ | refine x_and ?_ | refine x_or ?_ | refine x_not ?_ | refine x_if ?_
  | refine x_tup ?_ | refine x_lst ?_ | refine x_cel ?_ | refine x_dnew ?_ | refine x_sortIt ?_ | refine x_sl ?_ | refine x_noP ?_ | refine x_part ?_ | refine x_oI ?_ | refine x_mI ?_ | refine x_rng ?_ | refine x_yes ?_ | refine x_chn ?_ | refine x_fun ?_ | refine x_ok ?_)
local macro_rules | `(tactic| walk_at "x2") => `(tactic| first
  | ((with_reducible refine y_var ?_); refine ⟨_, rfl, ?_⟩)
  | ((with_reducible refine y_some ?_); refine ⟨_, rfl, ?_⟩)
  | ((with_reducible refine y_gP ?_); refine ⟨_, rfl, ?_⟩))
local macro_rules | `(tactic| walk_at "x") => `(tactic| repeat (first | walk_at "x1" | walk_at "x2" ))
local macro_rules | `(tactic| walk_at "nx") => `(tactic| (refine next_k (by assumption) (by assumption) (by first | decide | omega) (by first | decide | omega) ?_))

section
variable {need : Int} {hs rv : List Str} {sg : List Sg} {s0 : Cel} {u : Hap} {P : D → Hap → Prop} {E : EX} {x tx mkt : Str}
theorem check_k (R : Rq hs rv sg) (k1 : x ∉ hs → E "RosterProblem" (rp "unknown") (s0 :: (rost need hs rv sg ++ u))) (k2 : x ∈ hs → x ∈ rv → E "RosterProblem" (rp "revoked") (s0 :: (rost need hs rv sg ++ u)))
    (k3 : x ∈ hs → x ∉ rv → P .non (s0 :: (rost need hs rv sg ++ u))) : SatX (Mi.m_Roster__check [.ref 1, .str x] (s0 :: (rost need hs rv sg ++ u))) P E := by
  unfold Mi.m_Roster__check Mi.b_Roster__check
  refine X.fn (X.seqX (X.ife ?_))
  walk_at "x"
  rw [is_hs hs fun x => .bl (decide (x ∈ rv))]
  refine ⟨fun e => ?_, fun e => ?_⟩
  · have e : x ∉ hs := by simpa using e
    refine X.raise ?_
    walk_at "x"
    exact ⟨rfl, by decide, k1 e⟩
  have hx : x ∈ hs := by simpa using e
  refine SatSX.of (s_next ?_)
  dsimp only
  refine X.ife ?_
  walk_at "x"
  refine x_some (d := .bl (decide (x ∈ rv))) ?_ ?_
  · unfold dDGet
    rw [gd2]
    simp only [keyD]
    rw [val_hs hs fun x => .bl (decide (x ∈ rv)), if_pos hx]
  walk_at "x"
  refine ⟨fun e => ?_, fun e => ?_⟩
  · have e := of_decide_eq_true e
    refine X.raise ?_
    walk_at "x"
    exact ⟨rfl, by decide, k2 hx e⟩
  · have e := of_decide_eq_false e
    exact SatSX.of (s_next (k3 hx e))
theorem revoke_k (R : Rq hs rv sg) (k1 : x ∉ hs → E "RosterProblem" (rp "unknown") (s0 :: (rost need hs rv sg ++ u))) (k2 : x ∈ hs → x ∈ rv → E "RosterProblem" (rp "revoked") (s0 :: (rost need hs rv sg ++ u)))
    (k3 : x ∈ hs → x ∉ rv → P .non (s0 :: (rost need hs (rv ++ [x]) sg ++ u))) : SatX (Mi.m_Roster_revoke [.ref 1, .str x] (s0 :: (rost need hs rv sg ++ u))) P E := by
  unfold Mi.m_Roster_revoke Mi.b_Roster_revoke
  refine X.fn (X.seqX (XM.exp ?_))
  walk_at "x"
  refine ⟨isI_at (fs := rf need) (by rfl) (by rfl), ?_⟩
  walk_at "x"
  refine check_k R k1 k2 fun hx hxr => ?_
  dsimp only
  refine SatSX.of ?_
  walk_at "x"
  refine ⟨_, sdix_at (kvs := hs.map fun x => (.inr x, .bl (decide (x ∈ rv)))) (by rfl) (by rw [List.length_map]; have := R.hl; omega), ?_⟩
  rw [put_old (f := fun x => .bl (decide (x ∈ rv))) hx]
  have e1 : (hs.map fun y => ((.inr y : Key), if y = x then D.bl true else .bl (decide (y ∈ rv)))) = hs.map fun y => ((.inr y : Key), D.bl (decide (y ∈ rv ++ [x]))) := by
    refine List.map_congr_left fun y _ => ?_
    by_cases e : y = x
    · rw [if_pos e, decide_eq_true (by rw [e]; simp)]
    · rw [if_neg e]
      congr 2
      simp [e]
  rw [e1]
  exact k3 hx hxr
theorem put_sg {rows : List Sg} {t : Str} {d : D} (h : ∀ r ∈ rows, r.1 ≠ t) : putD (rows.map sgK) (.inr t) d = rows.map sgK ++ [(.inr t, d)] := by
  unfold putD
  rw [if_neg]
  intro z
  obtain ⟨kv, m, e⟩ := List.any_eq_true.mp z
  obtain ⟨r, mr, rfl⟩ := List.mem_map.mp m
  exact h r mr (Sum.inr.inj (of_decide_eq_true e))
theorem mk_new (R : Rq hs rv sg) (x : Str) : ∀ r ∈ sg, r.1 ≠ mk x (sg.length + 1) := by
  intro r m e
  obtain ⟨i, hi⟩ := List.getElem?_of_mem m
  have hl := (List.getElem?_eq_some_iff.mp hi).1
  rw [R.sf i r hi] at e
  have := mk_inj (by have := R.sl; omega) (by have := R.sl; omega) e
  omega
theorem mk_len {x : Str} {n : Nat} (hx : x.length ≤ 30) (hn : n < 100000) : (mk x n).length ≤ 40 := by
  have := (nm_small hn).2.1
  have h1 : DS.length = 1 := by decide
  unfold mk
  rw [len_app, len_app, h1]
  omega
theorem sign_k (R : Rq hs rv sg) (k1 : x ∉ hs → E "RosterProblem" (rp "unknown") (s0 :: (rost need hs rv sg ++ u))) (k2 : x ∈ hs → x ∈ rv → E "RosterProblem" (rp "revoked") (s0 :: (rost need hs rv sg ++ u)))
    (k3 : x ∈ hs → x ∉ rv → P (.str (mk x (sg.length + 1))) (s0 :: (rost need hs rv (sg ++ [(mk x (sg.length + 1), x, tx)]) ++ u))) : SatX (Mi.m_Roster_sign [.ref 1, .str x, .str tx] (s0 :: (rost need hs rv sg ++ u))) P E := by
  unfold Mi.m_Roster_sign Mi.b_Roster_sign
  refine X.fn (X.seqX (XM.exp ?_))
  walk_at "x"
  refine ⟨isI_at (fs := rf need) (by rfl) (by rfl), ?_⟩
  walk_at "x"
  refine check_k R k1 k2 fun hx hxr => ?_
  dsimp only
  have hxl := (R.ho x hx).2
  have hsl := R.sl
  have hn := nm_small (m := sg.length + 1) (by omega)
  have h1 : DS.length = 1 := by decide
  have e0 : (Str.empty ++ x ++ DS ++ nmS ((sg.length + 1 : Nat) : Int)) = mk x (sg.length + 1) := by unfold mk; rw [empty_app]
  refine SatSX.of ?_
  refine s_seqA (s_asg' (x_js (x_js1 (x_fm (x_var rfl ⟨x, if_pos (sl_le (by omega)), x, rfl, sl_le (by show 0 + _ ≤ _; omega), x_js1 (x_c ⟨DS, rfl, sl_le (by rw [len_app, h1]; show 0 + _ + _ ≤ _; omega), x_js1 (x_fm ?_)⟩)⟩)))))
  walk_at "x"
  rw [List.length_map]
  rw [show (sg.length : Int) + 1 = ((sg.length + 1 : Nat) : Int) from rfl]
  refine ⟨nmS ((sg.length + 1 : Nat) : Int), if_pos hn.1, _, rfl, sl_le (by rw [len_app, len_app, h1]; have := hn.2.1; show 0 + _ + _ + _ ≤ _; omega), x_js0 ?_⟩
  rw [e0]
  walk_at "x"
  refine ⟨sl_le (by simp), ?_⟩
  walk_at "x"
  refine ⟨_, sdix_at (kvs := sg.map sgK) (by rfl) (by rw [List.length_map]; omega), ?_⟩
  rw [put_sg (mk_new R x)]
  have e1 : sg.map sgK ++ [((.inr (mk x (sg.length + 1)) : Key), D.tup [.str x, .str tx])] = (sg ++ [(mk x (sg.length + 1), x, tx)]).map sgK := by rw [List.map_append]; rfl
  rw [e1]
  walk_at "x"
  exact k3 hx hxr
def dueF (w : Int) (x tx : Str) (hs rv : List Str) (sg : List Sg) : D × List Str × List Str × List Sg :=
  if w = 0 then (if x ∈ hs then (.lst [.str "duplicate"], hs, rv, sg) else if hs.length = 20 then (.lst [.str "full"], hs, rv, sg) else (.non, hs ++ [x], rv, sg))
  else if x ∉ hs then (.lst [.str "unknown"], hs, rv, sg) else if x ∈ rv then (.lst [.str "revoked"], hs, rv, sg)
  else if w = 1 then (.non, hs, rv ++ [x], sg) else (.str (mk x (sg.length + 1)), hs, rv, sg ++ [(mk x (sg.length + 1), x, tx)])
theorem do_k (R : Rq hs rv sg) {w : Int} (k : P (dueF w x tx hs rv sg).1 (s0 :: (rost need (dueF w x tx hs rv sg).2.1 (dueF w x tx hs rv sg).2.2.1 (dueF w x tx hs rv sg).2.2.2 ++ u))) : Sat (Mi.m_law_do [.ref 1, .int w, .str x, .str tx] (s0 :: (rost need hs rv sg ++ u))) P := by
  unfold Mi.m_law_do Mi.b_law_do
  refine x_fun (X.tryAs (X.seqX (X.set ?_)))
  walk_at "x"
  unfold Mi.m_law_called Mi.b_law_called
  have hand : ∀ (z : Str) (e : Env), P (.lst [.str z]) (s0 :: (rost need hs rv sg ++ u)) → SatS (mSeq (mIfS (mTst (mC (.bl true))) (mRet (mLst (mCons (mXf (rp z) "reason") mNil))) mNext) (mRet (mLst (mCons (mC (.str "odd")) mNil))) e (s0 :: (rost need hs rv sg ++ u))) ⟨fun _ h => P .non h, P, fun _ _ => False, fun _ _ => False⟩ := fun z e p => by
    refine s_seq ?_
    walk_at "x"
    refine ⟨fun _ => ?_, fun q => nomatch q⟩
    walk_at "x"
    exact x_some (d := .str z) rfl (x_nil ⟨sl_le (by simp), p⟩)
  refine X.fn (X.seqX (X.ife ?_))
  walk_at "x"
  have fin : ∀ (d : D) (h : Hap), (d = .non ∨ ∃ z, d = .str z) → P d h → SatS (mRet (mIf (mTst (mCB dIsi (mCons (mVar 4) (mCons (mC (.ty "list")) mNil)))) (mLst (mCons (mC (.str "a list")) mNil)) (mVar 4)) ((env0 6 [D.ref 1, D.int w, D.str x, D.str tx]).set 4 (some d)) h) ⟨fun _ h => P .non h, P, fun _ _ => False, fun _ _ => False⟩ := fun d h hd p => by
    rcases hd with rfl | ⟨z, rfl⟩
    all_goals
      walk_at "x"
      refine ⟨fun q => ?_, fun _ => ?_⟩
      · exact absurd q (by decide)
      · walk_at "x"
        exact p
  refine ⟨fun e => ?_, fun e => ?_⟩
  · have hw : w = 0 := of_decide_eq_true e
    refine XM.ret ?_
    walk_at "x"
    refine ⟨isI_at (fs := rf need) (by rfl) (by rfl), ?_⟩
    walk_at "x"
    refine add_k R (fun hx => ⟨List.mem_singleton.mpr rfl, hand _ _ ?_⟩) (fun hx hl => ⟨List.mem_singleton.mpr rfl, hand _ _ ?_⟩) fun hx hl => ?_
    · have kk : dueF w x tx hs rv sg = (.lst [.str "duplicate"], hs, rv, sg) := by unfold dueF; rw [if_pos hw, if_pos hx]
      rw [kk] at k; exact k
    · have kk : dueF w x tx hs rv sg = (.lst [.str "full"], hs, rv, sg) := by unfold dueF; rw [if_pos hw, if_neg hx, if_pos hl]
      rw [kk] at k; exact k
    · have kk : dueF w x tx hs rv sg = (.non, hs ++ [x], rv, sg) := by unfold dueF; rw [if_pos hw, if_neg hx, if_neg hl]
      rw [kk] at k
      exact fin _ _ (.inl rfl) k
  have hw : ¬ w = 0 := of_decide_eq_false e
  refine SatSX.of (s_next ?_)
  dsimp only
  refine X.seqX (X.ife ?_)
  walk_at "x"
  refine ⟨fun e => ?_, fun e => ?_⟩
  · have hw1 : w = 1 := of_decide_eq_true e
    refine XM.ret ?_
    walk_at "x"
    refine ⟨isI_at (fs := rf need) (by rfl) (by rfl), ?_⟩
    walk_at "x"
    refine revoke_k R (fun hx => ⟨List.mem_singleton.mpr rfl, hand _ _ ?_⟩) (fun hx hxr => ⟨List.mem_singleton.mpr rfl, hand _ _ ?_⟩) fun hx hxr => ?_
    · have kk : dueF w x tx hs rv sg = (.lst [.str "unknown"], hs, rv, sg) := by unfold dueF; rw [if_neg hw, if_pos hx]
      rw [kk] at k; exact k
    · have kk : dueF w x tx hs rv sg = (.lst [.str "revoked"], hs, rv, sg) := by unfold dueF; rw [if_neg hw, if_neg (fun q => q hx), if_pos hxr]
      rw [kk] at k; exact k
    · have kk : dueF w x tx hs rv sg = (.non, hs, rv ++ [x], sg) := by unfold dueF; rw [if_neg hw, if_neg (fun q => q hx), if_neg hxr, if_pos hw1]
      rw [kk] at k
      exact fin _ _ (.inl rfl) k
  have hw1 : ¬ w = 1 := of_decide_eq_false e
  refine SatSX.of (s_next ?_)
  dsimp only
  refine XM.ret ?_
  walk_at "x"
  refine ⟨isI_at (fs := rf need) (by rfl) (by rfl), ?_⟩
  walk_at "x"
  refine sign_k R (fun hx => ⟨List.mem_singleton.mpr rfl, hand _ _ ?_⟩) (fun hx hxr => ⟨List.mem_singleton.mpr rfl, hand _ _ ?_⟩) fun hx hxr => ?_
  · have kk : dueF w x tx hs rv sg = (.lst [.str "unknown"], hs, rv, sg) := by unfold dueF; rw [if_neg hw, if_pos hx]
    rw [kk] at k; exact k
  · have kk : dueF w x tx hs rv sg = (.lst [.str "revoked"], hs, rv, sg) := by unfold dueF; rw [if_neg hw, if_neg (fun q => q hx), if_pos hxr]
    rw [kk] at k; exact k
  · have kk : dueF w x tx hs rv sg = (.str (mk x (sg.length + 1)), hs, rv, sg ++ [(mk x (sg.length + 1), x, tx)]) := by unfold dueF; rw [if_neg hw, if_neg (fun q => q hx), if_neg hxr, if_neg hw1]
    rw [kk] at k
    exact fin _ _ (.inr ⟨_, rfl⟩) k
abbrev lsts (hs rv : List Str) (sg : List Sg) : Hap := [.lst (hs.map .str), .lst (rv.map .str), .lst (sg.map sgD)]
theorem v_app {i : Nat} {xs : List D} {y : D} {h : Hap} {P : D → Hap → Prop} (e : h[i]? = some (.lst xs)) (hl : xs.length < 1000000) (p : P .non (h.set i (.lst (xs ++ [y])))) : Sat (gAppend (.ref i) [y] h) P := by
  unfold gAppend
  simp only [e]
  rw [if_pos (by rw [sizeLine_eq]; omega)]
  exact p
theorem due_k (R : Rq hs rv sg) {w : Int} {hd rd : List Str} {sd : List Sg} (hxl : x.length ≤ 30) (k : P (dueF w x tx hs rv sg).1 (s0 :: (rost need hd rd sd ++ lsts (dueF w x tx hs rv sg).2.1 (dueF w x tx hs rv sg).2.2.1 (dueF w x tx hs rv sg).2.2.2))) :
    Sat (Mi.m_law_due_2 [.ref 7, .ref 8, .ref 9, .int w, .str x, .str tx] (s0 :: (rost need hd rd sd ++ lsts hs rv sg))) P := by
  have i7 : inO (.str x) (.ref 7) (s0 :: (rost need hd rd sd ++ lsts hs rv sg)) = some (decide (x ∈ hs)) := in_ref rfl
  have i8 : inO (.str x) (.ref 8) (s0 :: (rost need hd rd sd ++ lsts hs rv sg)) = some (decide (x ∈ rv)) := in_ref rfl
  unfold Mi.m_law_due_2 Mi.b_law_due_2
  refine x_fun (s_seq ?_)
  walk_at "x"
  refine ⟨fun e => ?_, fun e => ?_⟩
  · have hw : w = 0 := of_decide_eq_true e
    refine s_seq ?_
    refine s_if' (x_tst (x_bin (x_var rfl (x_var rfl (x_some (d := .bl (decide (x ∈ hs))) (by unfold dIn; rw [i7]; rfl) (x_oB ⟨fun e => ?_, fun e => ?_⟩))))))
    · have hx := of_decide_eq_true e
      walk_at "x"
      refine ⟨sl_le (by simp), ?_⟩
      have kk : dueF w x tx hs rv sg = (.lst [.str "duplicate"], hs, rv, sg) := by unfold dueF; rw [if_pos hw, if_pos hx]
      rw [kk] at k; exact k
    have hx := of_decide_eq_false e
    refine s_next ?_
    dsimp only
    refine s_seq ?_
    walk_at "x"
    rw [List.length_map]
    refine ⟨fun e => ?_, fun e => ?_⟩
    · have hl : (hs.length : Int) = 20 := of_decide_eq_true e
      walk_at "x"
      refine ⟨sl_le (by simp), ?_⟩
      have kk : dueF w x tx hs rv sg = (.lst [.str "full"], hs, rv, sg) := by unfold dueF; rw [if_pos hw, if_neg hx, if_pos (by omega)]
      rw [kk] at k; exact k
    have hl : ¬ (hs.length : Int) = 20 := of_decide_eq_false e
    have kk : dueF w x tx hs rv sg = (.non, hs ++ [x], rv, sg) := by unfold dueF; rw [if_pos hw, if_neg hx, if_neg (by omega)]
    rw [kk] at k
    walk_at "x"
    refine ⟨rfl, ?_⟩
    walk_at "x"
    refine v_app (xs := hs.map .str) (by rfl) (by rw [List.length_map]; have := R.hl; omega) ?_
    walk_at "x"
    have e1 : hs.map D.str ++ [.str x] = (hs ++ [x]).map D.str := by simp
    rw [e1]
    exact k
  have hw : ¬ w = 0 := of_decide_eq_false e
  refine s_next ?_
  dsimp only
  refine s_seq ?_
  refine s_if' (x_tst (x_bin (x_var rfl (x_var rfl (x_some (d := .bl (!decide (x ∈ hs))) (by unfold dNotIn; rw [i7]; rfl) (x_oB ⟨fun e => ?_, fun e => ?_⟩))))))
  · have hx : x ∉ hs := by simpa using e
    walk_at "x"
    refine ⟨sl_le (by simp), ?_⟩
    have kk : dueF w x tx hs rv sg = (.lst [.str "unknown"], hs, rv, sg) := by unfold dueF; rw [if_neg hw, if_pos hx]
    rw [kk] at k; exact k
  have hx : x ∈ hs := by simpa using e
  refine s_next ?_
  dsimp only
  refine s_seq ?_
  refine s_if' (x_tst (x_bin (x_var rfl (x_var rfl (x_some (d := .bl (decide (x ∈ rv))) (by unfold dIn; rw [i8]; rfl) (x_oB ⟨fun e => ?_, fun e => ?_⟩))))))
  · have hxr := of_decide_eq_true e
    walk_at "x"
    refine ⟨sl_le (by simp), ?_⟩
    have kk : dueF w x tx hs rv sg = (.lst [.str "revoked"], hs, rv, sg) := by unfold dueF; rw [if_neg hw, if_neg (fun q => q hx), if_pos hxr]
    rw [kk] at k; exact k
  have hxr := of_decide_eq_false e
  refine s_next ?_
  dsimp only
  refine s_seq ?_
  walk_at "x"
  refine ⟨fun e => ?_, fun e => ?_⟩
  · have hw1 : w = 1 := of_decide_eq_true e
    have kk : dueF w x tx hs rv sg = (.non, hs, rv ++ [x], sg) := by unfold dueF; rw [if_neg hw, if_neg (fun q => q hx), if_neg hxr, if_pos hw1]
    rw [kk] at k
    walk_at "x"
    refine ⟨rfl, ?_⟩
    walk_at "x"
    refine v_app (xs := rv.map .str) (by rfl) (by rw [List.length_map]; have := R.rl; omega) ?_
    walk_at "x"
    have e1 : rv.map D.str ++ [.str x] = (rv ++ [x]).map D.str := by simp
    rw [e1]
    exact k
  have hw1 : ¬ w = 1 := of_decide_eq_false e
  have kk : dueF w x tx hs rv sg = (.str (mk x (sg.length + 1)), hs, rv, sg ++ [(mk x (sg.length + 1), x, tx)]) := by unfold dueF; rw [if_neg hw, if_neg (fun q => q hx), if_neg hxr, if_neg hw1]
  rw [kk] at k
  have hsl := R.sl
  have hn := nm_small (m := sg.length + 1) (by omega)
  have h1 : ("-" : Str).length = 1 := by decide
  refine s_next ?_
  dsimp only
  walk_at "x"
  refine v_adds (sl_le (by omega)) ?_
  walk_at "x"
  rw [List.length_map, show (sg.length : Int) + 1 = ((sg.length + 1 : Nat) : Int) from rfl]
  refine x_some (d := .str (nmS ((sg.length + 1 : Nat) : Int))) (if_pos hn.1) ?_
  refine v_adds (sl_le (by rw [len_app, h1]; have := hn.2.1; omega)) ?_
  have e0 : x ++ ("-" : Str) ++ nmS ((sg.length + 1 : Nat) : Int) = mk x (sg.length + 1) := rfl
  rw [e0]
  walk_at "x"
  refine ⟨rfl, ?_⟩
  walk_at "x"
  refine ⟨sl_le (by simp), ?_⟩
  walk_at "x"
  refine v_app (xs := sg.map sgD) (by rfl) (by rw [List.length_map]; omega) ?_
  walk_at "x"
  have e1 : sg.map sgD ++ [D.tup [.str (mk x (sg.length + 1)), .str x, .str tx]] = (sg ++ [(mk x (sg.length + 1), x, tx)]).map sgD := by rw [List.map_append]; rfl
  rw [e1]
  exact k
end
end Vi

set_option Elab.async false
set_option linter.all false
set_option autoImplicit false
set_option maxRecDepth 100000
set_option maxHeartbeats 2000000
namespace Vi
open PySem PySem.Spec PyProof.Rows L2
open scoped Classical
local macro_rules | `(tactic| walk_at "x1") => `(tactic| with_reducible first
  | refine x_bin ?_ | refine x_tst ?_ | refine x_oB ?_ | refine x_c ?_ | refine s_seqA ?_ | refine s_seqU ?_ | refine s_seqE ?_ | refine s_seqN ?_ | refine s_seqD ?_ | refine s_seqF ?_ | refine s_seqL ?_ | refine s_asg' ?_ | refine s_if' ?_ | refine s_ret' ?_ | refine s_exp' ?_ | refine s_next ?_ | refine s_retN' ?_ | refine s_sub' ?_ | refine s_dsub' ?_ | refine s_setF' ?_ | refine s_ddel' ?_
  | refine x_cb ?_ | refine x_cons ?_ | refine x_nil ?_ | refine x_call ?_ | refine x_met ?_ | refine x_meth ?_ | refine x_make ?_ | refine x_fld ?_ | refine x_un ?_ | refine x_notT ?_ | refine x_andT ?_ | refine x_orT ?_ | refine x_and ?_ | refine x_or ?_ | refine x_not ?_ | refine x_if ?_
  | refine x_tup ?_ | refine x_lst ?_ | refine x_cel ?_ | refine x_dnew ?_ | refine x_sortIt ?_ | refine x_sl ?_ | refine x_noP ?_ | refine x_part ?_ | refine x_oI ?_ | refine x_mI ?_ | refine x_rng ?_ | refine x_yes ?_ | refine x_chn ?_ | refine x_fun ?_ | refine x_ok ?_)
local macro_rules | `(tactic| walk_at "x2") => `(tactic| first
  | ((with_reducible refine y_var ?_); refine ⟨_, rfl, ?_⟩)
  | ((with_reducible refine y_some ?_); refine ⟨_, rfl, ?_⟩)
  | ((with_reducible refine y_gP ?_); refine ⟨_, rfl, ?_⟩))
local macro_rules | `(tactic| walk_at "x") => `(tactic| repeat (first | walk_at "x1" | walk_at "x2" ))
local macro_rules | `(tactic| walk_at "nx") => `(tactic| (refine next_k (by assumption) (by assumption) (by first | decide | omega) (by first | decide | omega) ?_))

section
variable {need : Int} {hs rv : List Str} {sg : List Sg} {s0 : Cel} {h : Hap} {P : D → Hap → Prop} {x tx mkt : Str} {ns : List Int}
theorem sn_app {sg : List Sg} {r : Sg} (h : (sg.map Prod.fst).Nodup) (n : ∀ q ∈ sg, q.1 ≠ r.1) : ((sg ++ [r]).map Prod.fst).Nodup := by
  rw [List.map_append, List.nodup_append]
  refine ⟨h, by simp, fun a m b m2 => ?_⟩
  obtain ⟨q, mq, rfl⟩ := List.mem_map.mp m
  have : b = r.1 := by simpa using m2
  rw [this]
  exact n q mq
theorem okS_mk {x : Str} {n : Nat} (hx : okS x) (hn : n < 100000) : okS (mk x n) := by
  unfold mk
  exact okS_app (okS_app hx (okS_iff.mpr (by decide +kernel))) (nm_small hn).2.2.1
theorem asc_app {a b : Str} (ha : asc a) (hb : asc b) : asc (a ++ b) := fun c m => by
  rw [TL.tl_append] at m
  exact (List.mem_append.mp m).elim (ha c) (hb c)
theorem asc_ok {a : Str} (ha : asc a) : okS a := okS_iff.mpr fun c m => by have := ha c m; omega
theorem asc_ds : asc DS := by unfold asc; decide +kernel
theorem asc_mk {x : Str} {n : Nat} (hx : asc x) (hn : n < 100000) : asc (mk x n) := by
  unfold mk
  exact asc_app (asc_app hx asc_ds) fun c m => by have := (nm_small hn).2.2.2 c m; omega
theorem asc_cut {x : Str} {l u : Option Int} (hx : asc x) : asc (cutS x l u) := fun c m => hx c (List.mem_of_mem_drop (List.mem_of_mem_take (show c ∈ (x.cps.toList.drop _).take _ from m)))
theorem asc_upper : ∀ (l : List Nat), (∀ c ∈ l, c < 128) → asc (Txt.upper ⟨l.toArray⟩) ∧ (Txt.upper ⟨l.toArray⟩).length = l.length
  | [], _ => by
    have e : Txt.upper ⟨([] : List Nat).toArray⟩ = ("" : Str) := by decide +kernel
    rw [e]
    exact ⟨by unfold asc; decide +kernel, by decide⟩
  | c :: l, h => by
    have e : (⟨(c :: l).toArray⟩ : Str) = ⟨#[c]⟩ ++ ⟨l.toArray⟩ := TL.ext_tl (by rw [TL.tl_append]; rfl)
    have hc := h c List.mem_cons_self
    obtain ⟨i1, i2⟩ := asc_upper l fun d m => h d (List.mem_cons_of_mem _ m)
    rw [e, PySem.W.KOpn.upper_app, PySem.W.KOpn.upper_one hc]
    refine ⟨asc_app (fun d m => ?_) i1, by rw [len_app, i2]; show 1 + _ = _; rw [List.length_cons]; omega⟩
    have m : d ∈ [if 97 ≤ c ∧ c ≤ 122 then c - 32 else c] := m
    rw [List.mem_singleton.mp m]
    split <;> omega
theorem Rq.step (R : Rq hs rv sg) (w : Int) (ax : asc x) (ox : okS x) (lx : x.length ≤ 30) (ot : okS tx) (lt : tx.length ≤ 30) (hr : rv.length < 200) (hsg : sg.length < 200) :
    Rq (dueF w x tx hs rv sg).2.1 (dueF w x tx hs rv sg).2.2.1 (dueF w x tx hs rv sg).2.2.2 ∧ (dueF w x tx hs rv sg).2.2.1.length ≤ rv.length + 1 ∧ (dueF w x tx hs rv sg).2.2.2.length ≤ sg.length + 1 := by
  unfold dueF
  split
  · split
    · exact ⟨R, Nat.le_succ _, Nat.le_succ _⟩
    · next hx =>
      split
      · exact ⟨R, Nat.le_succ _, Nat.le_succ _⟩
      · next hl =>
        have e : ∀ y ∈ hs ++ [x], y ∈ hs ∨ y = x := fun y m => (List.mem_append.mp m).imp id List.mem_singleton.mp
        refine ⟨⟨?_, by rw [List.length_append, List.length_singleton]; have := R.hl; omega, fun y m => ?_, fun y m => List.mem_append_left _ (R.rs y m), R.rl, R.sn, R.sl, R.so, R.sz, R.sf, R.sa⟩, Nat.le_succ _, Nat.le_succ _⟩
        · rw [List.nodup_append]
          refine ⟨R.hn, by simp, fun a m b m2 z => hx ?_⟩
          rw [List.mem_singleton] at m2
          rw [← m2, ← z]; exact m
        · rcases e y m with m | rfl
          · exact R.ho y m
          · exact ⟨ox, lx⟩
  · split
    · exact ⟨R, Nat.le_succ _, Nat.le_succ _⟩
    · next hx =>
      have hx : x ∈ hs := Classical.byContradiction hx
      split
      · exact ⟨R, Nat.le_succ _, Nat.le_succ _⟩
      · next hxr =>
        split
        · refine ⟨⟨R.hn, R.hl, R.ho, fun y m => ?_, by rw [List.length_append, List.length_singleton]; omega, R.sn, R.sl, R.so, R.sz, R.sf, R.sa⟩, by rw [List.length_append, List.length_singleton]; omega, Nat.le_succ _⟩
          rcases List.mem_append.mp m with m | m
          · exact R.rs y m
          · rw [List.mem_singleton.mp m]; exact hx
        · have nw := mk_new R x
          refine ⟨⟨R.hn, R.hl, R.ho, R.rs, R.rl, sn_app R.sn nw, by rw [List.length_append, List.length_singleton]; omega, fun r m => ?_, fun r m => ?_, fun i r e => ?_, fun r m => ?_⟩, Nat.le_succ _, by rw [List.length_append, List.length_singleton]; omega⟩
          · rcases List.mem_append.mp m with m | m
            · exact R.so r m
            · rw [List.mem_singleton.mp m]; exact ⟨okS_mk ox (by omega), ox, ot⟩
          · rcases List.mem_append.mp m with m | m
            · exact R.sz r m
            · rw [List.mem_singleton.mp m]
              have := mk_len (x := x) (n := sg.length + 1) lx (by omega)
              exact ⟨show (Vi.mk x (sg.length + 1)).length ≤ 60 by omega, lx, lt⟩
          · by_cases hi : i < sg.length
            · rw [List.getElem?_append_left hi] at e
              exact R.sf i r e
            · rw [List.getElem?_append_right (by omega)] at e
              have h0 : i - sg.length = 0 := by
                have := (List.getElem?_eq_some_iff.mp e).1
                simp at this
                omega
              rw [h0] at e
              have e : (Vi.mk x (sg.length + 1), x, tx) = r := by simpa using e
              rw [← e]
              show Vi.mk x (sg.length + 1) = Vi.mk x (i + 1)
              rw [show i = sg.length by omega]
          · rcases List.mem_append.mp m with m | m
            · exact R.sa r m
            · rw [List.mem_singleton.mp m]; exact asc_mk ax (by omega)
theorem ysb_k {a b : Bool} (k : P (.bl (decide (a = b))) h) : Sat (Mi.m_law_yes [.bl a, .bl b] h) P := by
  unfold Mi.m_law_yes Mi.b_law_yes
  walk_at "x"
  refine ⟨true, rfl, fun _ => ?_, fun q => nomatch q⟩
  walk_at "x"
  exact k
theorem all_counted_k (R : Rq hs rv sg) (k : P (.bl true) (s0 :: (rost need hs rv sg ++ lsts hs rv sg))) : Sat (Mi.m_law_all_counted [.ref 1, .ref 8, .ref 9] (s0 :: (rost need hs rv sg ++ lsts hs rv sg))) P := by
  unfold Mi.m_law_all_counted Mi.b_law_all_counted
  refine x_fun (s_seq (s_look (sg.map sgD) (fun e => ∃ a, e = [some (.ref 1), some (.ref 8), some (.ref 9), a]) (fun _ => True) (x_items (dd := .ref 9) (by rfl) (x_var rfl ⟨rfl, rfl⟩)) ⟨_, rfl⟩ (fun y m e i => ?_) fun e i _ => ?_))
  · obtain ⟨a, rfl⟩ := i
    obtain ⟨⟨m1, x1, t1⟩, mr, rfl⟩ := List.mem_map.mp m
    have o := R.so _ mr
    have i8 : inO (.str x1) (.ref 8) (s0 :: (rost need hs rv sg ++ lsts hs rv sg)) = some (decide (x1 ∈ rv)) := in_ref rfl
    refine ⟨_, rfl, ?_⟩
    walk_at "x"
    refine ⟨isI_at (fs := rf need) (by rfl) (by rfl), ?_⟩
    walk_at "x"
    refine counts_k R o.2.1 o.2.2 ?_
    rw [decide_eq_true (show (m1, x1, t1) ∈ sg from mr), Bool.true_and]
    refine x_cons (x_bin (x_bin (x_var rfl (x_c (x_some (d := .str x1) (by rfl) (x_var rfl ?_))))))
    refine x_some (d := .bl (!decide (x1 ∈ rv))) (by unfold dNotIn; rw [i8]; rfl) (x_nil ?_)
    refine ysb_k ?_
    rw [decide_eq_true rfl]
    refine x_oB ⟨fun q => (nomatch q), fun _ => ?_⟩
    exact s_next ⟨rfl, ⟨_, rfl⟩, trivial⟩
  · obtain ⟨a, rfl⟩ := i
    dsimp only
    walk_at "x"
    exact k
end
end Vi

set_option Elab.async false
set_option linter.all false
set_option autoImplicit false
set_option maxRecDepth 100000
set_option maxHeartbeats 2000000
namespace Vi
open PySem PySem.Spec PyProof.Rows L2
open scoped Classical
local macro_rules | `(tactic| walk_at "x1") => `(tactic| with_reducible first
  | refine x_bin ?_ | refine x_tst ?_ | refine x_oB ?_ | refine x_c ?_ | refine s_seqA ?_ | refine s_seqU ?_ | refine s_seqE ?_ | refine s_seqN ?_ | refine s_seqD ?_ | refine s_seqF ?_ | refine s_seqL ?_ | refine s_asg' ?_ | refine s_if' ?_ | refine s_ret' ?_ | refine s_exp' ?_ | refine s_next ?_ | refine s_retN' ?_ | refine s_sub' ?_ | refine s_dsub' ?_ | refine s_setF' ?_ | refine s_ddel' ?_
  | refine x_cb ?_ | refine x_cons ?_ | refine x_nil ?_ | refine x_call ?_ | refine x_met ?_ | refine x_meth ?_ | refine x_make ?_ | refine x_fld ?_ | refine x_un ?_ | refine x_notT ?_ | refine x_andT ?_ | refine x_orT ?_ | refine x_and ?_ | refine x_or ?_ | refine x_not ?_ | refine x_if ?_
  | refine x_tup ?_ | refine x_lst ?_ | refine x_cel ?_ | refine x_dnew ?_ | refine x_sortIt ?_ | refine x_sl ?_ | refine x_noP ?_ | refine x_part ?_ | refine x_oI ?_ | refine x_mI ?_ | refine x_rng ?_ | refine x_yes ?_ | refine x_chn ?_ | refine x_fun ?_ | refine x_ok ?_)
local macro_rules | `(tactic| walk_at "x2") => `(tactic| first
  | ((with_reducible refine y_var ?_); refine ⟨_, rfl, ?_⟩)
  | ((with_reducible refine y_some ?_); refine ⟨_, rfl, ?_⟩)
  | ((with_reducible refine y_gP ?_); refine ⟨_, rfl, ?_⟩))
local macro_rules | `(tactic| walk_at "x") => `(tactic| repeat (first | walk_at "x1" | walk_at "x2" ))
local macro_rules | `(tactic| walk_at "nx") => `(tactic| (refine next_k (by assumption) (by assumption) (by first | decide | omega) (by first | decide | omega) ?_))

section
variable {need : Int} {hs rv : List Str} {sg : List Sg} {s0 : Cel} {h : Hap} {P : D → Hap → Prop} {x tx mkt : Str} {ns : List Int}
theorem str_at' {L : List Str} {r : Int} (h0 : 0 ≤ r) (h1 : r < L.length) : ∃ y, L[r.toNat]? = some y ∧ y ∈ L ∧ atI (L.map D.str) r = some (.str y) := by
  have hl : r.toNat < L.length := by omega
  refine ⟨L[r.toNat], List.getElem?_eq_getElem hl, List.getElem_mem hl, ?_⟩
  unfold atI ixN
  rw [if_pos h0, if_pos (by rw [List.length_map]; exact h1)]
  simp [hl]
theorem row_at {L : List Sg} {r : Int} (h0 : 0 ≤ r) (h1 : r < L.length) : ∃ y, y ∈ L ∧ atI (L.map sgD) r = some (sgD y) := by
  have hl : r.toNat < L.length := by omega
  refine ⟨L[r.toNat], List.getElem_mem hl, ?_⟩
  unfold atI ixN
  rw [if_pos h0, if_pos (by rw [List.length_map]; exact h1)]
  simp [hl]
theorem v_ixR {d y : D} {xs : List D} {i : Int} {h : Hap} {P : D → Hap → Prop} (e : getQ d h = some xs) (e2 : atI xs i = some y) (p : P y h) : Sat (ofO (dIx d (.int i) h) h) P := x_some (by
  unfold dIx
  cases d with
  | str z => simp [getQ, getL] at e
  | _ => simp only []; rw [e]; exact e2) p
abbrev H8 : List Str := ["a", "b", "a-1", "b-2", "c", "a-", "aa", "c.c"]
theorem h8_ok : ∀ y ∈ H8, asc y ∧ y.length ≤ 3 := by unfold asc; exact by decide +kernel
theorem due_in (R : Rq hs rv sg) (o1 : okS mkt) (o2 : okS x) (o3 : okS tx) {P : D → Hap → Prop} {env : Env} {a b c : ME} (ha : Sat (a env (s0 :: (rost need hs rv sg ++ lsts hs rv sg))) fun d h1 => d = .tup [.str mkt, .str x, .str tx] ∧ h1 = s0 :: (rost need hs rv sg ++ lsts hs rv sg))
    (hb : ∀ Q : D → Hap → Prop, Q (.ref 9) (s0 :: (rost need hs rv sg ++ lsts hs rv sg)) → Sat (b env (s0 :: (rost need hs rv sg ++ lsts hs rv sg))) Q) (hc : ∀ Q : D → Hap → Prop, Q (.bl (!decide (x ∈ rv))) (s0 :: (rost need hs rv sg ++ lsts hs rv sg)) → Sat (c env (s0 :: (rost need hs rv sg ++ lsts hs rv sg))) Q)
    (k : P (.bl (decide ((mkt, x, tx) ∈ sg) && !decide (x ∈ rv))) (s0 :: (rost need hs rv sg ++ lsts hs rv sg))) : Sat (mAnd (mBin dInD a b) c env (s0 :: (rost need hs rv sg ++ lsts hs rv sg))) P := by
  refine x_and (x_bin (ha.mono fun d h1 ⟨e1, e2⟩ => ?_))
  subst e1 e2
  refine hb _ ?_
  have z := in_sgs (acc := sg) (p := (mkt, x, tx)) (i := 9) (g := s0 :: (rost need hs rv sg ++ lsts hs rv sg)) rfl R.so ⟨o1, o2, o3⟩
  refine x_some z ⟨_, rfl, fun e => ?_, fun e => ?_⟩
  · rw [e, Bool.true_and] at k
    exact hc _ k
  · rw [e, Bool.false_and] at k
    exact k
theorem not_in {env : Env} {a b : ME} (ha : ∀ Q : D → Hap → Prop, Q (.str x) (s0 :: (rost need hs rv sg ++ lsts hs rv sg)) → Sat (a env (s0 :: (rost need hs rv sg ++ lsts hs rv sg))) Q) (hb : ∀ Q : D → Hap → Prop, Q (.ref 8) (s0 :: (rost need hs rv sg ++ lsts hs rv sg)) → Sat (b env (s0 :: (rost need hs rv sg ++ lsts hs rv sg))) Q)
    (k : P (.bl (!decide (x ∈ rv))) (s0 :: (rost need hs rv sg ++ lsts hs rv sg))) : Sat (mBin dNotIn a b env (s0 :: (rost need hs rv sg ++ lsts hs rv sg))) P := by
  refine x_bin (ha _ (hb _ ?_))
  have i8 : inO (.str x) (.ref 8) (s0 :: (rost need hs rv sg ++ lsts hs rv sg)) = some (decide (x ∈ rv)) := in_ref rfl
  exact x_some (d := .bl (!decide (x ∈ rv))) (by unfold dNotIn; rw [i8]; rfl) k
theorem counted_k (R : Rq hs rv sg) {Ts : List Str} (hT : Ts.length = 6) (hT2 : ∀ y ∈ Ts, okS y ∧ y.length ≤ 30) (hs0 : St (rost need hs rv sg ++ lsts hs rv sg) h) (hn : ns.length ≤ 63) (k : ∀ h', St (rost need hs rv sg ++ lsts hs rv sg) h' → P (.bl true) h') : Sat (Mi.m_law_counted [.ref 0, scr ns, .ref 1, .ref 8, .ref 9, .lst (Ts.map .str)] h) P := by
  unfold Mi.m_law_counted Mi.b_law_counted
  walk_at "x"
  refine ⟨sl_le (by simp), ?_⟩
  walk_at "x"
  walk_at "nx"
  intro r1 h1 a1 b1 s1
  obtain ⟨x1, -, m1, e1⟩ := str_at' (L := H8) a1 b1
  have q1 := h8_ok x1 m1
  refine v_ixR (xs := H8.map .str) (by rfl) e1 ?_
  walk_at "x"
  walk_at "nx"
  intro r2 h2 a2 b2 s2
  obtain ⟨t1, -, m2, e2⟩ := str_at' (L := Ts) a2 (by rw [hT]; exact b2)
  have q2 := hT2 t1 m2
  refine v_ixR (xs := Ts.map .str) (by rfl) e2 ?_
  walk_at "x"
  refine v_adds (sl_le (by have : ("-" : Str).length = 1 := by decide
                           omega)) ?_
  walk_at "x"
  walk_at "nx"
  intro r3 h3 a3 b3 s3
  obtain ⟨n3, rfl⟩ := Int.eq_ofNat_of_zero_le a3
  have q3 := nm_small (m := n3) (by omega)
  refine x_nil (x_some (d := .str (nmS n3)) (if_pos q3.1) ?_)
  have l1 : ("-" : Str).length = 1 := by decide
  refine v_adds (sl_le (by rw [len_app, l1]; omega)) ?_
  have am := asc_mk (n := n3) q1.1 (by omega)
  have em : x1 ++ ("-" : Str) ++ nmS (n3 : Int) = mk x1 n3 := rfl
  rw [em]
  generalize mk x1 n3 = mk1 at *
  walk_at "x"
  clear s1 s2
  refine s_cut (fun e h => ∃ x tx mkt v9, okS x ∧ okS tx ∧ okS mkt ∧ e = [some (.ref 0), some (scr ns), some (.ref 1), some (.ref 8), some (.ref 9), some (.lst (Ts.map .str)), some (.str x), some (.str tx), some (.str mkt), v9, none] ∧ St (rost need hs rv sg ++ lsts hs rv sg) h) ?_ ?_
  · obtain ⟨c1, c2, c3, rfl, c4⟩ := s3
    have s3 : St (rost need hs rv sg ++ lsts hs rv sg) (stc c1 c2 c3 :: (rost need hs rv sg ++ lsts hs rv sg)) := ⟨c1, c2, c3, rfl, c4⟩
    have om := asc_ok am
    have ox := asc_ok q1.1
    have hsl := R.sl
    walk_at "x"
    rw [List.length_map]
    refine ⟨fun e => ?_, fun e => ⟨fun q => (nomatch q), fun _ => ?_⟩⟩
    · have hpos : (0 : Int) < sg.length := of_decide_eq_true e
      walk_at "x"
      walk_at "nx"
      intro r4 h4 a4 b4 s4
      walk_at "x"
      refine ⟨fun _ => ?_, fun _ => ?_⟩
      · obtain ⟨c1, c2, c3, rfl, c4⟩ := s4
        have s4 : St (rost need hs rv sg ++ lsts hs rv sg) (stc c1 c2 c3 :: (rost need hs rv sg ++ lsts hs rv sg)) := ⟨c1, c2, c3, rfl, c4⟩
        walk_at "x"
        have eL : (fun xs : List D => D.int (xs.length : Int)) (sg.map sgD) = .int (sg.length : Int) := by
          show D.int ((sg.map sgD).length : Int) = _
          rw [List.length_map]
        rw [eL]
        walk_at "nx"
        intro r5 h5 a5 b5 s5
        obtain ⟨c1, c2, c3, rfl, c4⟩ := s5
        have s5 : St (rost need hs rv sg ++ lsts hs rv sg) (stc c1 c2 c3 :: (rost need hs rv sg ++ lsts hs rv sg)) := ⟨c1, c2, c3, rfl, c4⟩
        obtain ⟨⟨rm, rx, rt⟩, mr, e5⟩ := row_at (L := sg) a5 b5
        have ro := R.so _ mr
        refine v_ixR (xs := sg.map sgD) (by rfl) e5 ?_
        walk_at "x"
        refine s_cut (fun e h => ∃ x, okS x ∧ e = [some (.ref 0), some (scr ns), some (.ref 1), some (.ref 8), some (.ref 9), some (.lst (Ts.map .str)), some (.str x), some (.str t1), some (.str rm), some (sgD (rm, rx, rt)), none] ∧ St (rost need hs rv sg ++ lsts hs rv sg) h) ?_ ?_
        · walk_at "x"
          walk_at "nx"
          intro r6 h6 a6 b6 s6
          walk_at "x"
          refine ⟨fun _ => ?_, fun _ => ?_⟩
          · walk_at "x"
            exact ⟨rx, ro.2.1, rfl, s6⟩
          · walk_at "x"
            exact ⟨x1, ox, rfl, s6⟩
        rintro e h6 ⟨x, ox, rfl, s6⟩
        walk_at "x"
        walk_at "nx"
        intro r7 h7 a7 b7 s7
        walk_at "x"
        refine ⟨fun _ => ?_, fun _ => ?_⟩
        · walk_at "x"
          exact ⟨x, rt, rm, _, ox, ro.2.2, ro.1, rfl, s7⟩
        · walk_at "x"
          exact ⟨x, t1, rm, _, ox, q2.1, ro.1, rfl, s7⟩
      · walk_at "x"
        exact ⟨x1, t1, mk1, _, ox, q2.1, om, rfl, s4⟩
    · walk_at "x"
      exact ⟨x1, t1, mk1, _, ox, q2.1, om, rfl, s3⟩
  rintro e h4 ⟨x, tx, mkt, v9, ox, ot, om, rfl, s4⟩
  clear s3
  obtain ⟨c1, c2, c3, rfl, c4⟩ := s4
  have s4 : St (rost need hs rv sg ++ lsts hs rv sg) (stc c1 c2 c3 :: (rost need hs rv sg ++ lsts hs rv sg)) := ⟨c1, c2, c3, rfl, c4⟩
  refine s_seqA (s_asg' (due_in R om ox ot ?_ (fun Q q => x_var rfl q) (fun Q q => not_in (fun Q q => x_var rfl q) (fun Q q => x_var rfl q) q) ?_))
  · walk_at "x"
    exact ⟨sl_le (by simp), rfl, rfl⟩
  dsimp only
  refine s_seq ?_
  walk_at "x"
  refine ⟨isI_at (fs := rf need) (by rfl) (by rfl), ?_⟩
  walk_at "x"
  refine counts_k R ox ot ?_
  walk_at "x"
  refine ysb_k ?_
  rw [decide_eq_true rfl]
  refine x_oB ⟨fun q => (nomatch q), fun _ => ?_⟩
  walk_at "x"
  refine ⟨isI_at (fs := rf need) (by rfl) (by rfl), ?_⟩
  walk_at "x"
  refine revoked_k R.rs ?_
  have i8 : inO (.str x) (.ref 8) (stc c1 c2 c3 :: (rost need hs rv sg ++ lsts hs rv sg)) = some (decide (x ∈ rv)) := in_ref rfl
  refine x_cons (x_bin (x_var rfl (x_var rfl (x_some (d := .bl (decide (x ∈ rv))) (by unfold dIn; rw [i8]; rfl) (x_nil ?_)))))
  refine ysb_k ?_
  rw [decide_eq_true rfl]
  exact k _ s4
local macro_rules | `(tactic| walk_at "ad") => `(tactic| (refine v_adds (sl_le (by (try simp only [len_app]); omega)) ?_; walk_at "x"))
theorem add_lst {a b : List D} {h : Hap} (hl : a.length + b.length ≤ 1000000) : dAdd (.lst a) (.lst b) h = some (.lst (a ++ b)) := by
  unfold dAdd
  simp only [getM]
  rw [if_pos (by rw [sizeLine_eq]; omega)]
theorem forged_k (R : Rq hs rv sg) (hs0 : St (rost need hs rv sg ++ lsts hs rv sg) h) (hn : ns.length ≤ 63) (k : ∀ h', St (rost need hs rv sg ++ lsts hs rv sg) h' → P (.bl true) h') : Sat (Mi.m_law_forged [.ref 0, scr ns, .ref 1, .ref 8, .ref 9] h) P := by
  have hsl := R.sl
  obtain ⟨c1, c2, c3, rfl, c4⟩ := hs0
  have hs0 : St (rost need hs rv sg ++ lsts hs rv sg) (stc c1 c2 c3 :: (rost need hs rv sg ++ lsts hs rv sg)) := ⟨c1, c2, c3, rfl, c4⟩
  unfold Mi.m_law_forged Mi.b_law_forged
  refine x_fun (s_seq ?_)
  walk_at "x"
  rw [List.length_map]
  refine ⟨fun e => ?_, fun e => ?_⟩
  · walk_at "x"
    exact k _ hs0
  have hpos : ¬ (sg.length : Int) = 0 := of_decide_eq_false e
  refine s_next ?_
  dsimp only
  refine s_seq (s_asgT ?_)
  walk_at "x"
  have eL : (fun xs : List D => D.int (xs.length : Int)) (sg.map sgD) = .int (sg.length : Int) := by
    show D.int ((sg.map sgD).length : Int) = _
    rw [List.length_map]
  rw [eL]
  walk_at "nx"
  intro r5 h5 a5 b5 s5
  obtain ⟨c1, c2, c3, rfl, c4⟩ := s5
  have s5 : St (rost need hs rv sg ++ lsts hs rv sg) (stc c1 c2 c3 :: (rost need hs rv sg ++ lsts hs rv sg)) := ⟨c1, c2, c3, rfl, c4⟩
  obtain ⟨⟨rm, rx, rt⟩, mr, e5⟩ := row_at (L := sg) a5 b5
  have ro := R.so _ mr
  have rz := R.sz _ mr
  have ra := R.sa _ mr
  refine v_ixR (xs := sg.map sgD) (by rfl) e5 ?_
  refine ⟨_, rfl, ?_⟩
  have zl : rm.length ≤ 60 ∧ rx.length ≤ 30 := ⟨rz.1, rz.2.1⟩
  walk_at "x"
  refine v_lens (sl_le (by omega)) ?_
  walk_at "x"
  refine v_slS (sl_le (by omega)) ?_
  have nl := len_cutS rm (some ((rx.length : Int) + 1)) none
  have na := asc_cut (l := some ((rx.length : Int) + 1)) (u := none) ra
  generalize cutS rm (some ((rx.length : Int) + 1)) none = nb at *
  have L1 : ("zz-" : Str).length = 3 := by decide
  have L2 : ("-0" : Str).length = 2 := by decide
  have L3 : ("--" : Str).length = 2 := by decide
  have L4 : ("-" : Str).length = 1 := by decide
  have L5 : (" " : Str).length = 1 := by decide
  have L6 : ("0" : Str).length = 1 := by decide
  have L7 : ("_" : Str).length = 1 := by decide
  have L8 : ("-+" : Str).length = 2 := by decide
  have L9 : ("\n" : Str).length = 1 := by decide
  walk_at "x"
  walk_at "ad"
  walk_at "ad"
  walk_at "ad"
  walk_at "ad"
  walk_at "ad"
  walk_at "ad"
  walk_at "ad"
  walk_at "ad"
  walk_at "ad"
  refine ⟨sl_le (by simp), ?_⟩
  walk_at "x"
  refine ⟨rfl, ?_⟩
  walk_at "x"
  refine x_gP (d := .str (Txt.upper rm)) (if_pos (by omega)) ?_
  have up := asc_upper rm.cps.toList ra
  rw [show (⟨rm.cps.toList.toArray⟩ : Str) = rm from rfl] at up
  generalize Txt.upper rm = ur at *
  walk_at "x"
  walk_at "ad"
  refine v_slS (sl_le (by omega)) ?_
  have c1l := len_cutS rm (some 1) none
  have c1a := asc_cut (l := some 1) (u := none) ra
  generalize cutS rm (some 1) none = w1 at *
  walk_at "x"
  refine v_slS (sl_le (by omega)) ?_
  have c2l := len_cutS rm none (some (-1))
  have c2a := asc_cut (l := none) (u := some (-1)) ra
  generalize cutS rm none (some (-1)) = w2 at *
  walk_at "x"
  walk_at "ad"
  walk_at "ad"
  walk_at "ad"
  walk_at "ad"
  walk_at "ad"
  walk_at "ad"
  walk_at "ad"
  refine ⟨sl_le (by simp), ?_⟩
  have fin : ∀ (FL : List Str) (v8 v5 : D), FL.length ≤ 20 → (∀ y ∈ FL, asc y) → SatS (mSeq (mFor (mI (mVar 9)) (gNm 10) (mSeq (mAsg (mAnd (mBin dInD (mTup (mCons (mVar 10) (mCons (mVar 6) (mCons (mVar 7) mNil)))) (mVar 4)) (mBin dNotIn (mVar 6) (mVar 3))) (gNm 11))
    (mIfS (mNotT (mTst (mCall Mi.m_law_yes (mCons (mMeth "Roster" "counts" Mi.m_Roster_counts (mVar 2) (mCons (mVar 10) (mCons (mVar 6) (mCons (mVar 7) mNil)))) (mCons (mVar 11) mNil))))) (mRet (mC (.bl false))) mNext)))
    (mRet (mC (.bl true))) [some (.ref 0), some (scr ns), some (.ref 1), some (.ref 8), some (.ref 9), some v5, some (.str rx), some (.str rt), some v8, some (.lst (FL.map .str)), none, none] (stc c1 c2 c3 :: (rost need hs rv sg ++ lsts hs rv sg))) ⟨fun _ h => P .non h, P, fun _ _ => False, fun _ _ => False⟩ := fun FL v8 v5 hF hFa => by
    refine s_seq (s_look (FL.map .str) (fun e => ∃ a b, e = [some (.ref 0), some (scr ns), some (.ref 1), some (.ref 8), some (.ref 9), some v5, some (.str rx), some (.str rt), some v8, some (.lst (FL.map .str)), a, b]) (fun _ => True) (x_items (dd := .lst (FL.map .str)) (by rfl) (x_var rfl ⟨rfl, rfl⟩)) ⟨_, _, rfl⟩ (fun y m e i => ?_) fun e i _ => ?_)
    · obtain ⟨a, b, rfl⟩ := i
      obtain ⟨z, mz, rfl⟩ := List.mem_map.mp m
      have oz := asc_ok (hFa z mz)
      refine ⟨_, rfl, ?_⟩
      refine s_seqA (s_asg' (due_in R oz ro.2.1 ro.2.2 ?_ (fun Q q => x_var rfl q) (fun Q q => not_in (fun Q q => x_var rfl q) (fun Q q => x_var rfl q) q) ?_))
      · walk_at "x"
        exact ⟨sl_le (by simp), rfl, rfl⟩
      dsimp only
      walk_at "x"
      refine ⟨isI_at (fs := rf need) (by rfl) (by rfl), ?_⟩
      walk_at "x"
      refine counts_k R ro.2.1 ro.2.2 ?_
      walk_at "x"
      refine ysb_k ?_
      rw [decide_eq_true rfl]
      refine x_oB ⟨fun q => (nomatch q), fun _ => ?_⟩
      exact s_next ⟨rfl, ⟨_, _, rfl⟩, trivial⟩
    · obtain ⟨a, b, rfl⟩ := i
      dsimp only
      walk_at "x"
      exact k _ s5
  have arx : asc rx := by
    obtain ⟨i, hi⟩ := List.getElem?_of_mem mr
    have e : rm = mk rx (i + 1) := R.sf i _ hi
    intro c m
    refine ra c ?_
    show c ∈ TL.tl rm
    rw [e]
    unfold mk
    rw [TL.tl_append, TL.tl_append]
    exact List.mem_append_left _ (List.mem_append_left _ m)
  have arm : asc rm := ra
  have lt : asc "zz-" ∧ asc "-0" ∧ asc "" ∧ asc "x" ∧ asc "--" ∧ asc "-" ∧ asc " " ∧ asc "0" ∧ asc "_" ∧ asc "-+" ∧ asc "\n" := by unfold asc; exact by decide +kernel
  obtain ⟨t1, t2, t3, t4, t5, t6, t7, t8, t9, t10, t11⟩ := lt
  refine x_some (add_lst (by simp)) ?_
  refine fin ["zz-" ++ nb, rx ++ "-0" ++ nb, "", "x", nb, rx ++ nb, rx ++ "--" ++ nb, rx ++ "-" ++ nb ++ " ", ur, rm ++ "0", w1, w2, rx ++ "-", rx ++ "_" ++ nb, " " ++ rm, rx ++ "-+" ++ nb, rm ++ "\n"] _ _ (by simp) fun y m => ?_
  simp only [List.mem_cons, List.not_mem_nil, or_false] at m
  rcases m with rfl | rfl | rfl | rfl | rfl | rfl | rfl | rfl | rfl | rfl | rfl | rfl | rfl | rfl | rfl | rfl | rfl
  · exact asc_app t1 na
  · exact asc_app (asc_app arx t2) na
  · exact t3
  · exact t4
  · exact na
  · exact asc_app arx na
  · exact asc_app (asc_app arx t5) na
  · exact asc_app (asc_app (asc_app arx t6) na) t7
  · exact up.1
  · exact asc_app arm t8
  · exact c1a
  · exact c2a
  · exact asc_app arx t6
  · exact asc_app (asc_app arx t9) na
  · exact asc_app t7 arm
  · exact asc_app (asc_app arx t10) na
  · exact asc_app arm t11
end
end Vi

set_option Elab.async false
set_option linter.all false
set_option autoImplicit false
set_option maxRecDepth 100000
set_option maxHeartbeats 2000000
namespace Vi
open PySem PySem.Spec PyProof.Rows L2
open scoped Classical
local macro_rules | `(tactic| walk_at "x1") => `(tactic| with_reducible first
  | refine x_bin ?_ | refine x_tst ?_ | refine x_oB ?_ | refine x_c ?_ | refine s_seqA ?_ | refine s_seqU ?_ | refine s_seqE ?_ | refine s_seqN ?_ | refine s_seqD ?_ | refine s_seqF ?_ | refine s_seqL ?_ | refine s_asg' ?_ | refine s_if' ?_ | refine s_ret' ?_ | refine s_exp' ?_ | refine s_next ?_ | refine s_retN' ?_ | refine s_sub' ?_ | refine s_dsub' ?_ | refine s_setF' ?_ | refine s_ddel' ?_
  | refine x_cb ?_ | refine x_cons ?_ | refine x_nil ?_ | refine x_call ?_ | refine x_met ?_ | refine x_meth ?_ | refine x_make ?_ | refine x_fld ?_ | refine x_un ?_ | refine x_notT ?_ | refine x_andT ?_ | refine x_orT ?_ | refine x_and ?_ | refine x_or ?_ | refine x_not ?_ | refine x_if ?_
  | refine x_tup ?_ | refine x_lst ?_ | refine x_cel ?_ | refine x_dnew ?_ | refine x_sortIt ?_ | refine x_sl ?_ | refine x_noP ?_ | refine x_part ?_ | refine x_oI ?_ | refine x_mI ?_ | refine x_rng ?_ | refine x_yes ?_ | refine x_chn ?_ | refine x_fun ?_ | refine x_ok ?_)
local macro_rules | `(tactic| walk_at "x2") => `(tactic| first
  | ((with_reducible refine y_var ?_); refine ⟨_, rfl, ?_⟩)
  | ((with_reducible refine y_some ?_); refine ⟨_, rfl, ?_⟩)
  | ((with_reducible refine y_gP ?_); refine ⟨_, rfl, ?_⟩))
local macro_rules | `(tactic| walk_at "x") => `(tactic| repeat (first | walk_at "x1" | walk_at "x2" ))
local macro_rules | `(tactic| walk_at "nx") => `(tactic| (refine next_k (by assumption) (by assumption) (by first | decide | omega) (by first | decide | omega) ?_))

section
variable {need : Int} {hs rv : List Str} {sg : List Sg} {s0 : Cel} {h t : Hap} {P : D → Hap → Prop} {x tx mkt : Str} {ns : List Int}
abbrev CH3 : Str := " !\"#$&'()*+,-./0123456789:;<=>?@ABCDEFGHIJKLMNOPQRSTUVWXYZ[\\]^_`" ++ "abcdefghijklmnopqrstuvwxyz{|}~\n"
theorem ch3_ok : ∀ c ∈ CH3.cps.toList, c < 128 := by decide +kernel
theorem achar_k {r : Int} (r0 : 0 ≤ r) (r1 : r < 95) (k : ∀ c, c < 128 → P (.str (ch c)) h) : Sat (Mi.m_law_char [.int r] h) P := by
  have hl : CH3.cps.toList.length = 95 := by decide +kernel
  obtain ⟨c, e1, m, e2⟩ := atI_ok (xs := CH3.cps.toList) (i := r) r0 (by omega)
  unfold Mi.m_law_char Mi.b_law_char
  walk_at "x"
  exact v_ixS (sl_le (by decide +kernel)) e1 (k c (ch3_ok c m))
theorem awords_k (hs : St t h) (hn : ns.length ≤ 63) (k : ∀ z h', asc z → z.length ≤ 24 → St t h' → P (.str z) h') : Sat (Mi.m_law_words [.ref 0, scr ns] h) P := by
  unfold Mi.m_law_words Mi.b_law_words
  walk_at "x"
  refine s_cut (fun e h => ∃ (z : Str) (x3 x4 : Option D), asc z ∧ z.length ≤ 24 ∧ e = [some (.ref 0), some (scr ns), some (.str z), x3, x4] ∧ St t h) ?_ ?_
  · refine s_forI (fun pre post e h => ∃ (z : Str) (x3 x4 : Option D), asc z ∧ z.length ≤ pre.length * 4 ∧ e = [some (.ref 0), some (scr ns), some (.str z), x3, x4] ∧ St t h) ?_
    walk_at "x"
    walk_at "nx"
    intro r0 h0 a0 b0 s0
    walk_at "x"
    refine x_rng1 (by omega) ⟨⟨"", _, _, (fun c m => (nomatch (show c ∈ ([] : List Nat) from m))), by decide, rfl, s0⟩, fun _ _ _ _ _ _ => trivial, ?_, ?_⟩
    · rintro pre x post e h1 hx ⟨z, x3, x4, hz, hl, rfl, s1⟩
      have hk : x = .int (pre.length : Int) ∧ pre.length < r0.toNat := by
        have hx : rngL 0 r0.toNat = pre ++ x :: post := hx
        have hq := congrArg List.length hx
        simp only [rngL, List.length_map, List.length_range, List.length_append, List.length_cons] at hq
        have h2 : (rngL 0 r0.toNat)[pre.length]? = some x := by rw [hx]; simp
        have hl : pre.length < r0.toNat := by omega
        simp [rngL, hl] at h2
        exact ⟨h2.symm, hl⟩
      obtain ⟨rfl, hk⟩ := hk
      refine ⟨_, rfl, ?_⟩
      walk_at "x"
      walk_at "nx"
      intro r2 h2 a2 b2 s2
      walk_at "x"
      refine ⟨fun e => ?_, fun e => ?_⟩
      · have e : r2 < 6 := by simpa using e
        walk_at "x"
        refine ⟨sl_le (by simp), ?_⟩
        walk_at "x"
        obtain ⟨d, e1, m, _⟩ := atI_ok (xs := [D.str "a", .str "b", .str "ab", .str "\n", .str " ", .str "one\n"]) a2 e
        refine x_some (d := d) e1 ?_
        have : ∃ y : Str, d = .str y ∧ asc y ∧ y.length ≤ 4 := by
          simp only [List.mem_cons, List.not_mem_nil, or_false] at m
          rcases m with rfl | rfl | rfl | rfl | rfl | rfl
          all_goals exact ⟨_, rfl, by unfold asc; decide +kernel, by decide +kernel⟩
        obtain ⟨y, rfl, hy, hyl⟩ := this
        refine v_adds (sl_le (by omega)) ?_
        exact ⟨z ++ y, _, _, asc_app hz hy, by rw [len_app, List.length_append]; simp only [List.length_cons, List.length_nil]; omega, rfl, s2⟩
      · walk_at "x"
        walk_at "nx"
        intro r3 h3 a3 b3 s3
        walk_at "x"
        refine achar_k a3 b3 fun c hc => ?_
        refine v_adds (sl_le (by rw [len_ch]; omega)) ?_
        have hcc : asc (ch c) := fun d m => by
          have m : d ∈ [c] := m
          rw [List.mem_singleton.mp m]; exact hc
        exact ⟨z ++ ch c, _, _, asc_app hz hcc, by rw [len_app, len_ch, List.length_append]; simp only [List.length_cons, List.length_nil]; omega, rfl, s3⟩
    · rintro e h1 ⟨z, x3, x4, hz, hl, rfl, s1⟩
      have hl : z.length ≤ (rngL 0 r0.toNat).length * 4 := hl
      have hlr : (rngL 0 r0.toNat).length = r0.toNat := by simp [rngL]
      exact ⟨z, x3, x4, hz, by omega, rfl, s1⟩
  rintro e h1 ⟨z, x3, x4, hz, hl, rfl, s1⟩
  walk_at "x"
  exact k z _ hz hl s1
theorem init_k (k : P .non (s0 :: rost need [] [] [])) : Sat (Mi.m_Roster_init [.ref 1, .int need] [s0, .ins "Roster" []]) P := by
  unfold Mi.m_Roster_init Mi.b_Roster_init
  walk_at "x"
  refine ⟨1, [], rfl, rfl, (show 0 < 1000 by decide), ?_⟩
  walk_at "x"
  refine ⟨1, [("need", .int need)], rfl, rfl, (show 1 < 1000 by decide), ?_⟩
  walk_at "x"
  refine ⟨1, [("need", .int need), ("_houses", .ref 2)], rfl, rfl, (show 2 < 1000 by decide), ?_⟩
  walk_at "x"
  refine ⟨1, [("need", .int need), ("_houses", .ref 2), ("_strikes", .ref 3)], rfl, rfl, (show 3 < 1000 by decide), ?_⟩
  walk_at "x"
  refine ⟨1, [("need", .int need), ("_houses", .ref 2), ("_strikes", .ref 3), ("_signed", .ref 4)], rfl, rfl, (show 4 < 1000 by decide), ?_⟩
  walk_at "x"
  refine ⟨1, [("need", .int need), ("_houses", .ref 2), ("_strikes", .ref 3), ("_signed", .ref 4), ("_voices", .ref 5)], rfl, rfl, (show 5 < 1000 by decide), ?_⟩
  exact k
/-- what the law is due to answer -/
def Du (d : D) : Prop := d = .non ∨ (∃ z, okS z ∧ d = .lst [.str z]) ∨ ∃ z, okS z ∧ d = .str z
theorem due_Du (ax : asc x) (R : Rq hs rv sg) (hsg : sg.length < 200) (w : Int) : Du (dueF w x tx hs rv sg).1 := by
  have l : okS "duplicate" ∧ okS "full" ∧ okS "unknown" ∧ okS "revoked" := ⟨okS_iff.mpr (by decide +kernel), okS_iff.mpr (by decide +kernel), okS_iff.mpr (by decide +kernel), okS_iff.mpr (by decide +kernel)⟩
  unfold dueF
  split
  · split
    · exact .inr (.inl ⟨_, l.1, rfl⟩)
    · split
      · exact .inr (.inl ⟨_, l.2.1, rfl⟩)
      · exact .inl rfl
  · split
    · exact .inr (.inl ⟨_, l.2.2.1, rfl⟩)
    · split
      · exact .inr (.inl ⟨_, l.2.2.2, rfl⟩)
      · split
        · exact .inl rfl
        · exact .inr (.inr ⟨_, asc_ok (asc_mk ax (by omega)), rfl⟩)
theorem Du.ne {d : D} (u : Du d) (h : Hap) : dNe d d h = some (.bl false) := by
  rcases u with rfl | ⟨z, o, rfl⟩ | ⟨z, o, rfl⟩
  · rfl
  · have p1 : PyData.strOk z = true := o
    have s1 : SeqAt.shaped (.list [.str z]) = true := by
      unfold SeqAt.shaped
      simp [PyData.canLay0, PyData.canLayAll0, p1, PyData.depth, PyData.depthAll]
    have e : eqO (.lst [.str z]) (.lst [.str z]) h = some true := by
      show (if SeqAt.shaped (.list [.str z]) = true ∧ SeqAt.shaped (.list [.str z]) = true then some (PyData.eqv (.list [.str z]) (.list [.str z])) else none) = _
      rw [if_pos ⟨s1, s1⟩]
      have : PyData.eqv (.list [.str z]) (.list [.str z]) = ((z == z) && true) := rfl
      rw [this]
      simp
    unfold dNe
    rw [e]
    rfl
  · show (some (decide (z = z))).map (fun b => D.bl (!b)) = _
    rw [decide_eq_true rfl]
    rfl
theorem tup_pl (hs : List Str) (hl : hs.length ≤ 1000) : (D.tup (hs.map .str)).pl = true ∧ (D.tup (hs.map .str)).sz < 12 := by
  have h1 : ∀ l : List Str, D.szs (l.map .str) = 0 := fun l => by
    induction l with
    | nil => simp [D.szs]
    | cons a l ih => simp [D.szs, D.sz, ih]
  have h2 : ∀ l : List Str, D.pls (l.map .str) = true := fun l => by
    induction l with
    | nil => simp [D.pls]
    | cons a l ih => simp [D.pls, D.pl, ih]
  constructor
  · simp [D.pl, h2]; omega
  · simp [D.sz, h1]
theorem words_of_k {a b : Str} (ha : a.length ≤ 30) (hb : b.length ≤ 30) (k : P (.str (nmS (a.length : Int) ++ ":" ++ a ++ b)) h) : Sat (Mi.m_words_of [.str a, .str b] h) P := by
  have hn := nm_small (m := a.length) (by omega)
  have l1 : (":" : Str).length = 1 := by decide
  unfold Mi.m_words_of Mi.b_words_of
  refine x_fun (s_ret' (x_js (x_js1 (x_fm (x_cb (x_cons (x_var rfl (x_nil (v_lens (sl_le (by omega)) ⟨nmS (a.length : Int), if_pos hn.1, _, rfl, ?_, ?_⟩)))))))))
  · exact sl_le (by show 0 + _ ≤ _; have := hn.2.1; omega)
  rw [empty_app]
  refine x_js1 (x_c ⟨_, rfl, sl_le (by rw [l1]; have := hn.2.1; omega), x_js1 (x_fm (x_var rfl ⟨a, if_pos (sl_le (by omega)), _, rfl, sl_le (by rw [len_app, l1]; have := hn.2.1; omega), x_js1 (x_fm (x_var rfl ⟨b, if_pos (sl_le (by omega)), _, rfl, sl_le (by rw [len_app, len_app, l1]; have := hn.2.1; omega), x_js0 k⟩))⟩))⟩)
theorem law_words_of_k {a b : Str} (ha : a.length ≤ 30) (hb : b.length ≤ 30) (k : P (.str (nmS (a.length : Int) ++ ":" ++ a ++ b)) h) : Sat (Mi.m_law_words_of [.str a, .str b] h) P := by
  have hn := nm_small (m := a.length) (by omega)
  have l1 : (":" : Str).length = 1 := by decide
  unfold Mi.m_law_words_of Mi.b_law_words_of
  walk_at "x"
  refine v_lens (sl_le (by omega)) ?_
  refine x_nil (x_some (d := .str (nmS (a.length : Int))) (if_pos hn.1) ?_)
  walk_at "x"
  refine v_adds (sl_le (by rw [l1]; have := hn.2.1; omega)) ?_
  walk_at "x"
  refine v_adds (sl_le (by rw [len_app, l1]; have := hn.2.1; omega)) ?_
  walk_at "x"
  refine v_adds (sl_le (by rw [len_app, len_app, l1]; have := hn.2.1; omega)) ?_
  exact k
end
end Vi

set_option Elab.async false
set_option linter.all false
set_option autoImplicit false
set_option maxRecDepth 100000
set_option maxHeartbeats 2000000
namespace Vi
open PySem PySem.Spec PyProof.Rows L2
open scoped Classical
local macro_rules | `(tactic| walk_at "x1") => `(tactic| with_reducible first
  | refine x_bin ?_ | refine x_tst ?_ | refine x_oB ?_ | refine x_c ?_ | refine s_seqA ?_ | refine s_seqU ?_ | refine s_seqE ?_ | refine s_seqN ?_ | refine s_seqD ?_ | refine s_seqF ?_ | refine s_seqL ?_ | refine s_asg' ?_ | refine s_if' ?_ | refine s_ret' ?_ | refine s_exp' ?_ | refine s_next ?_ | refine s_retN' ?_ | refine s_sub' ?_ | refine s_dsub' ?_ | refine s_setF' ?_ | refine s_ddel' ?_
  | refine x_cb ?_ | refine x_cons ?_ | refine x_nil ?_ | refine x_call ?_ | refine x_met ?_ | refine x_meth ?_ | refine x_make ?_ | refine x_fld ?_ | refine x_un ?_ | refine x_notT ?_ | refine x_andT ?_ | refine x_orT ?_ | refine x_and ?_ | refine x_or ?_ | refine x_not ?_ | refine x_if ?_
  | refine x_tup ?_ | refine x_lst ?_ | refine x_cel ?_ | refine x_dnew ?_ | refine x_sortIt ?_ | refine x_sl ?_ | refine x_noP ?_ | refine x_part ?_ | refine x_oI ?_ | refine x_mI ?_ | refine x_rng ?_ | refine x_yes ?_ | refine x_chn ?_ | refine x_fun ?_ | refine x_ok ?_)
local macro_rules | `(tactic| walk_at "x2") => `(tactic| first
  | ((with_reducible refine y_var ?_); refine ⟨_, rfl, ?_⟩)
  | ((with_reducible refine y_some ?_); refine ⟨_, rfl, ?_⟩)
  | ((with_reducible refine y_gP ?_); refine ⟨_, rfl, ?_⟩))
local macro_rules | `(tactic| walk_at "x") => `(tactic| repeat (first | walk_at "x1" | walk_at "x2" ))
local macro_rules | `(tactic| walk_at "nx") => `(tactic| (refine next_k (by assumption) (by assumption) (by first | decide | omega) (by first | decide | omega) ?_))
section
variable {need : Int} {rv : List Str} {sg : List Sg} {h : Hap} {P : D → Hap → Prop} {E : EX} {x to c tx mkt : Str} {env : Env} {Q : Ps}
/-! ### looks and changes of dicts -/
theorem v_dget1 {i : Nat} {kvs : List (Key × D)} {z : Str} (e : h[i]? = some (.dct kvs)) (p : P ((valD kvs (.inr z)).getD .non) h) : Sat (gP dGet1 (.ref i) [.str z] h) P := x_gP (by
  unfold dGet1
  simp only []
  rw [dct_at e]
  rfl) p
theorem v_dget2 {i : Nat} {kvs : List (Key × D)} {z : Str} {d : D} (e : h[i]? = some (.dct kvs)) (p : P ((valD kvs (.inr z)).getD d) h) : Sat (gP dGet2 (.ref i) [.str z, d] h) P := x_gP (by
  unfold dGet2
  simp only []
  rw [dct_at e]
  rfl) p
theorem v_dsub {i : Nat} {kvs : List (Key × D)} {z : Str} {d : D} (e : h[i]? = some (.dct kvs)) (hv : valD kvs (.inr z) = some d) (p : P d h) : Sat (ofO (dDGet (.ref i) (.str z) h) h) P := x_some (by
  unfold dDGet
  rw [dct_at e]
  exact hv) p
theorem v_dsubL {i : Nat} {kvs : List (Key × D)} {z : Str} {d : D} (e : h[i]? = some (.lok kvs)) (hv : valD kvs (.inr z) = some d) (p : P d h) : Sat (ofO (dDGetL (.ref i) (.str z) h) h) P := x_some (by
  unfold dDGetL getDL
  simp only [e]
  exact hv) p
theorem v_din {i : Nat} {kvs : List (Key × D)} {z : Str} {b : Bool} (e : h[i]? = some (.dct kvs)) (hv : (valD kvs (.inr z)).isSome = b) (p : P (.bl b) h) : Sat (ofO (dDIn (.str z) (.ref i) h) h) P := x_some (by
  unfold dDIn
  rw [dct_at e]
  show some (D.bl (valD kvs (.inr z)).isSome) = _
  rw [hv]) p
theorem v_dnin {i : Nat} {kvs : List (Key × D)} {z : Str} {b : Bool} (e : h[i]? = some (.dct kvs)) (hv : (valD kvs (.inr z)).isSome = b) (p : P (.bl (!b)) h) : Sat (ofO (dDNotIn (.str z) (.ref i) h) h) P := x_some (by
  unfold dDNotIn
  rw [dct_at e]
  show some (D.bl (!(valD kvs (.inr z)).isSome)) = _
  rw [hv]) p
/-- d[k] += 1 of a field's dict -/
theorem s_up {o i : ME} {j : Nat} {kvs : List (Key × D)} {z : Str} {n : Int} (ho : ∀ P : D → Hap → Prop, P (.ref j) h → Sat (o env h) P) (hi : ∀ P : D → Hap → Prop, P (.str z) h → Sat (i env h) P) (e : h[j]? = some (.dct kvs)) (hv : valD kvs (.inr z) = some (.int n)) (hl : kvs.length ≤ 1000000)
    (p : Q.n env (h.set j (.dct (putD kvs (.inr z) (.int (n + 1)))))) : SatS (mDAug o i (mC (.int 1)) env h) Q := by
  unfold mDAug
  refine SatS.of (ho _ (SatS.of (hi _ ?_)))
  have e1 : dDGet (.ref j) (.str z) h = some (.int n) := by
    unfold dDGet
    rw [dct_at e]
    exact hv
  rw [e1]
  simp only []
  refine SatS.of (x_c ?_)
  show SatS (match dAddI (.int n) (.int 1) h with
    | some z1 => match sDix (.ref j) (.str z) z1 h with
      | some h4 => .nx env h4
      | none => .stuck
    | none => .stuck) Q
  have e2 : dAddI (.int n) (.int 1) h = some (.int (n + 1)) := rfl
  rw [e2]
  simp only []
  rw [sdix_at e hl]
  exact p
abbrev HS : List Str := ["h0", "h1", "h2", "h3", "h4"]
abbrev ifz (need : Int) : Cel := .ins "Roster" (rf need)
abbrev hrD (rv : List Str) : List (Key × D) := HS.map fun x => (.inr x, .bl (decide (x ∈ rv)))
abbrev stD (st : List Str) : List (Key × D) := HS.map fun x => (.inr x, .int (st.count x : Nat))
theorem strike_put {st : List Str} (hx : x ∈ HS) : putD (stD st) (.inr x) (.int ((st.count x : Nat) + 1)) = stD (st ++ [x]) := by
  unfold stD
  rw [put_old (f := fun x => .int (st.count x : Nat)) hx]
  refine List.map_congr_left fun y _ => ?_
  rw [List.count_append]
  by_cases e : y = x
  · subst e
    rw [if_pos rfl]
    simp
  · rw [if_neg e]
    have : [x].count y = 0 := by rw [List.count_eq_zero]; simp [e]
    rw [this]
    rfl
theorem strike_val {st : List Str} (hx : x ∈ HS) : valD (stD st) (.inr x) = some (.int (st.count x : Nat)) := by
  unfold stD
  rw [val_hs HS fun x => .int (st.count x : Nat), if_pos hx]
theorem fz {f : Str} {d : D} (hi : h[1]? = some (ifz need)) (l : (rf need).lookup f = some d) : fldD "Roster" f (.ref 1) h = some d := fld_at hi l
/-- a field of the roster -/
theorem x_fz {f : Str} {d : D} (hi : h[1]? = some (ifz need)) (e0 : env[0]? = some (some (.ref 1))) (l : (rf need).lookup f = some d) (p : P d h) : Sat (mFld "Roster" f (mVar 0) env h) P := x_fld (x_var e0 (x_some (fz hi l) p))
theorem revoked_v (hi : h[1]? = some (ifz need)) (h2 : h[2]? = some (.dct (hrD rv))) (hr : ∀ y ∈ rv, y ∈ HS) (p : P (.bl (decide (x ∈ rv))) h) : Sat (Mi.m_Roster_is_revoked [.ref 1, .str x] h) P := by
  unfold Mi.m_Roster_is_revoked Mi.b_Roster_is_revoked
  refine x_fun (s_ret' (x_met (x_fz hi rfl rfl ⟨isd_at h2, x_cons (x_var rfl (x_cons (x_c (x_nil (v_dget2 h2 ?_)))))⟩)))
  have e : (valD (hrD rv) (.inr x)).getD (.bl false) = .bl (decide (x ∈ rv)) := by
    unfold hrD
    rw [val_hs HS fun x => .bl (decide (x ∈ rv))]
    by_cases hx : x ∈ HS
    · rw [if_pos hx]; rfl
    · rw [if_neg hx, decide_eq_false (fun m => hx (hr x m))]; rfl
  rw [e]
  exact p
theorem counts_v (hi : h[1]? = some (ifz need)) (h2 : h[2]? = some (.dct (hrD rv))) (h4 : h[4]? = some (.dct (sg.map sgK))) (R : Rq HS rv sg) (o2 : okS x) (o3 : okS tx) (k : P (.bl (decide ((mkt, x, tx) ∈ sg) && !decide (x ∈ rv))) h) : Sat (Mi.m_Roster_counts [.ref 1, .str mkt, .str x, .str tx] h) P := by
  unfold Mi.m_Roster_counts Mi.b_Roster_counts
  refine x_fun (s_ret' (x_and (x_bin (x_met (x_fz hi rfl rfl ⟨isd_at h4, x_cons (x_var rfl (x_nil (v_dget1 h4 ?_)))⟩)))))
  refine x_tup (x_cons (x_var rfl (x_cons (x_var rfl (x_nil ⟨sl_le (by simp), ?_⟩)))))
  have fin : ∀ b : Bool, b = decide ((mkt, x, tx) ∈ sg) → ∃ t, D.bl b = D.bl t ∧ (t = true → Sat (mNot (mMeth "Roster" "is_revoked" Mi.m_Roster_is_revoked (mVar 0) (mCons (mVar 2) mNil)) (env0 4 [.ref 1, .str mkt, .str x, .str tx]) h) P) ∧ (t = false → P (.bl false) h) := fun b hb => by
    refine ⟨b, rfl, fun e => ?_, fun e => ?_⟩
    · rw [← hb, e, Bool.true_and] at k
      exact x_not (x_meth (x_var rfl ⟨isI_at hi rfl, x_cons (x_var rfl (x_nil (revoked_v hi h2 R.rs ⟨_, rfl, k⟩)))⟩))
    · rw [← hb, e, Bool.false_and] at k
      exact k
  rcases get_mem R.sn mkt x tx with ⟨g1, g2⟩ | ⟨r, g1, g2⟩
  · rw [val_sg, g1]
    refine x_some (d := .bl false) (by show (eqO .non _ _).map D.bl = _; rw [eq_non o2 o3]; rfl) ?_
    exact fin false (by rw [decide_eq_false g2])
  · have m := List.mem_of_find?_eq_some g1
    rw [val_sg, g1]
    have oq := R.so r m
    refine x_some (d := .bl (decide (r.2.1 = x ∧ r.2.2 = tx))) (by show (eqO (sgE r) _ _).map D.bl = _; unfold sgE; rw [eq_pair oq.2.1 oq.2.2 o2 o3]; rfl) ?_
    exact fin _ (by rw [Bool.eq_iff_iff, decide_eq_true_iff, decide_eq_true_iff]; exact g2.symm)
theorem check_v (hi : h[1]? = some (ifz need)) (h2 : h[2]? = some (.dct (hrD rv))) (hx : x ∈ HS) (hr : x ∉ rv) (k : P .non h) : SatX (Mi.m_Roster__check [.ref 1, .str x] h) P E := by
  unfold Mi.m_Roster__check Mi.b_Roster__check
  have ev : valD (hrD rv) (.inr x) = some (.bl false) := by
    unfold hrD
    rw [val_hs HS fun x => .bl (decide (x ∈ rv)), if_pos hx, decide_eq_false hr]
  refine X.fn (X.seqX (X.ife (x_tst (x_bin (x_var rfl (x_fz hi rfl rfl (v_dnin (b := true) h2 (by rw [ev]; rfl) (x_oB ⟨fun q => (nomatch q), fun _ => ?_⟩))))))))
  refine SatSX.of (s_next ?_)
  dsimp only
  exact X.ife (x_tst (x_bin (x_fz hi rfl rfl (x_var rfl (v_dsub h2 ev (x_oB ⟨fun q => (nomatch q), fun _ => SatSX.of (s_next k)⟩))))))
theorem revoke_v (hi : h[1]? = some (ifz need)) (h2 : h[2]? = some (.dct (hrD rv))) (hx : x ∈ HS) (hr : x ∉ rv) (k : P .non (h.set 2 (.dct (hrD (rv ++ [x]))))) : Sat (Mi.m_Roster_revoke [.ref 1, .str x] h) P := SatX.sat (by
  unfold Mi.m_Roster_revoke Mi.b_Roster_revoke
  refine X.fn (X.seqX (XM.exp (x_var rfl ⟨isI_at hi rfl, x_cons (x_var rfl (x_nil (check_v hi h2 hx hr ?_)))⟩)))
  dsimp only
  refine SatSX.of (s_dsub' (x_c (x_fz hi rfl rfl (x_var rfl ⟨_, sdix_at h2 (by rw [List.length_map]; decide), ?_⟩))))
  unfold hrD
  rw [put_old (f := fun x => .bl (decide (x ∈ rv))) hx]
  have e1 : (HS.map fun y => ((.inr y : Key), if y = x then D.bl true else .bl (decide (y ∈ rv)))) = hrD (rv ++ [x]) := by
    refine List.map_congr_left fun y _ => ?_
    by_cases e : y = x
    · rw [if_pos e, decide_eq_true (by rw [e]; simp)]
    · rw [if_neg e]
      congr 2
      simp [e]
  rw [e1]
  exact k)
theorem sign_v (hi : h[1]? = some (ifz need)) (h2 : h[2]? = some (.dct (hrD rv))) (h4 : h[4]? = some (.dct (sg.map sgK))) (R : Rq HS rv sg) (hx : x ∈ HS) (hr : x ∉ rv)
    (k : P (.str (Vi.mk x (sg.length + 1))) (h.set 4 (.dct ((sg ++ [(Vi.mk x (sg.length + 1), x, tx)]).map sgK)))) : Sat (Mi.m_Roster_sign [.ref 1, .str x, .str tx] h) P := SatX.sat (by
  unfold Mi.m_Roster_sign Mi.b_Roster_sign
  refine X.fn (X.seqX (XM.exp (x_var rfl ⟨isI_at hi rfl, x_cons (x_var rfl (x_nil (check_v hi h2 hx hr ?_)))⟩)))
  dsimp only
  have hxl := (R.ho x hx).2
  have hsl := R.sl
  have hn := nm_small (m := sg.length + 1) (by omega)
  have h1 : DS.length = 1 := by decide
  have e0 : (Str.empty ++ x ++ DS ++ nmS ((sg.length + 1 : Nat) : Int)) = Vi.mk x (sg.length + 1) := by unfold Vi.mk; rw [empty_app]
  refine SatSX.of ?_
  refine s_seqA (s_asg' (x_js (x_js1 (x_fm (x_var rfl ⟨x, if_pos (sl_le (by omega)), x, rfl, sl_le (by show 0 + _ ≤ _; omega), x_js1 (x_c ⟨DS, rfl, sl_le (by rw [len_app, h1]; show 0 + _ + _ ≤ _; omega), x_js1 (x_fm ?_)⟩)⟩)))))
  refine x_bin (x_cb (x_cons (x_fz hi rfl rfl (x_nil (x_some (d := .int (sg.length : Nat)) ?_ (x_c ?_))))))
  · unfold dDLen
    simp only [dct_at h4, List.length_map, Option.map_some]
  refine x_some (d := .int ((sg.length + 1 : Nat) : Int)) rfl ?_
  refine ⟨nmS ((sg.length + 1 : Nat) : Int), if_pos hn.1, _, rfl, sl_le (by rw [len_app, len_app, h1]; have := hn.2.1; show 0 + _ + _ + _ ≤ _; omega), x_js0 ?_⟩
  rw [e0]
  refine s_seq (s_dsub' (x_tup (x_cons (x_var rfl (x_cons (x_var rfl (x_nil ⟨sl_le (by simp), x_fz hi rfl rfl (x_var rfl ⟨_, sdix_at h4 (by rw [List.length_map]; omega), ?_⟩)⟩)))))))
  rw [put_sg (mk_new R x)]
  have e1 : sg.map sgK ++ [((.inr (Vi.mk x (sg.length + 1)) : Key), D.tup [.str x, .str tx])] = (sg ++ [(Vi.mk x (sg.length + 1), x, tx)]).map sgK := by rw [List.map_append]; rfl
  rw [e1]
  dsimp only
  refine s_ret' (x_var rfl ?_)
  exact k)
end
end Vi

set_option Elab.async false
set_option linter.all false
set_option autoImplicit false
set_option maxRecDepth 100000
set_option maxHeartbeats 2000000
namespace Vi
open PySem PySem.Spec PyProof.Rows L2
open scoped Classical
local macro_rules | `(tactic| walk_at "x1") => `(tactic| with_reducible first
  | refine x_bin ?_ | refine x_tst ?_ | refine x_oB ?_ | refine x_c ?_ | refine s_seqA ?_ | refine s_seqU ?_ | refine s_seqE ?_ | refine s_seqN ?_ | refine s_seqD ?_ | refine s_seqF ?_ | refine s_seqL ?_ | refine s_asg' ?_ | refine s_if' ?_ | refine s_ret' ?_ | refine s_exp' ?_ | refine s_next ?_ | refine s_retN' ?_ | refine s_sub' ?_ | refine s_dsub' ?_ | refine s_setF' ?_ | refine s_ddel' ?_
  | refine x_cb ?_ | refine x_cons ?_ | refine x_nil ?_ | refine x_call ?_ | refine x_met ?_ | refine x_meth ?_ | refine x_make ?_ | refine x_fld ?_ | refine x_un ?_ | refine x_notT ?_ | refine x_andT ?_ | refine x_orT ?_ | refine x_and ?_ | refine x_or ?_ | refine x_not ?_ | refine x_if ?_
  | refine x_tup ?_ | refine x_lst ?_ | refine x_cel ?_ | refine x_dnew ?_ | refine x_sortIt ?_ | refine x_sl ?_ | refine x_noP ?_ | refine x_part ?_ | refine x_oI ?_ | refine x_mI ?_ | refine x_rng ?_ | refine x_yes ?_ | refine x_chn ?_ | refine x_fun ?_ | refine x_ok ?_)
local macro_rules | `(tactic| walk_at "x2") => `(tactic| first
  | ((with_reducible refine y_var ?_); refine ⟨_, rfl, ?_⟩)
  | ((with_reducible refine y_some ?_); refine ⟨_, rfl, ?_⟩)
  | ((with_reducible refine y_gP ?_); refine ⟨_, rfl, ?_⟩))
local macro_rules | `(tactic| walk_at "x") => `(tactic| repeat (first | walk_at "x1" | walk_at "x2" ))
local macro_rules | `(tactic| walk_at "nx") => `(tactic| (refine next_k (by assumption) (by assumption) (by first | decide | omega) (by first | decide | omega) ?_))
/-! ### rows by text -/
theorem val_rows {α : Type} (f : α → D) (to : Str) : ∀ l : List (Str × α), valD (l.map fun p => ((.inr p.1 : Key), f p.2)) (.inr to) = (l.find? fun p => decide (p.1 = to)).map fun p => f p.2
  | [] => rfl
  | p :: l => by
    have ih := val_rows f to l
    unfold valD at *
    rw [List.map_cons, List.find?_cons, List.find?_cons]
    by_cases e : p.1 = to
    · have h1 : decide ((Sum.inr p.1 : Key) = .inr to) = true := decide_eq_true (by rw [e])
      simp only [h1, decide_eq_true e]
      rfl
    · have h1 : decide ((Sum.inr p.1 : Key) = .inr to) = false := decide_eq_false fun z => e (Sum.inr.inj z)
      simp only [h1, decide_eq_false e]
      exact ih
theorem put_rows {α : Type} {f : α → D} {to : Str} {d : D} {l : List (Str × α)} (n : ∀ p ∈ l, p.1 ≠ to) : putD (l.map fun p => ((.inr p.1 : Key), f p.2)) (.inr to) d = (l.map fun p => ((.inr p.1 : Key), f p.2)) ++ [(.inr to, d)] := by
  unfold putD
  rw [if_neg]
  intro z
  obtain ⟨kv, m, e⟩ := List.any_eq_true.mp z
  obtain ⟨r, mr, rfl⟩ := List.mem_map.mp m
  exact n r mr (Sum.inr.inj (of_decide_eq_true e))
theorem find_fst {α : Type} {to : Str} : ∀ {l : List (Str × α)} {p : Str × α}, (l.map Prod.fst).Nodup → p ∈ l → p.1 = to → (l.find? fun p => decide (p.1 = to)) = some p
  | q :: l, p, n, m, e => by
    rw [List.map_cons, List.nodup_cons] at n
    rw [List.find?_cons]
    by_cases eq : q.1 = to
    · rw [decide_eq_true eq]
      rcases List.mem_cons.mp m with rfl | m
      · rfl
      · exact absurd (List.mem_map.mpr ⟨p, m, by rw [e, eq]⟩) n.1
    · rw [decide_eq_false eq]
      rcases List.mem_cons.mp m with rfl | m
      · exact absurd e eq
      · exact find_fst n.2 m e
theorem find_no {α : Type} {to : Str} {l : List (Str × α)} (n : ∀ p ∈ l, p.1 ≠ to) : (l.find? fun p => decide (p.1 = to)) = none := List.find?_eq_none.mpr fun p m => by simp [n p m]
theorem nd_sub : ∀ (l m : List Str), l.Nodup → (∀ x ∈ l, x ∈ m) → l.length ≤ m.length
  | [], m, _, _ => Nat.zero_le _
  | x :: l, m, d, s => by
    have hx := s x List.mem_cons_self
    rw [List.nodup_cons] at d
    have := nd_sub l (m.erase x) d.2 fun y my => (List.mem_erase_of_ne (fun e => d.1 (by rw [← e]; exact my))).mpr (s y (List.mem_cons_of_mem _ my))
    rw [List.length_erase_of_mem hx] at this
    have := List.length_pos_of_mem hx
    simp only [List.length_cons]
    omega
/-! ### signed rows of the law, voices, claims -/
abbrev Qd := Str × Str × Str × Str
def qdD (q : Qd) : D := .tup [.str q.1, .str q.2.1, .str q.2.2.1, .str q.2.2.2]
def wd (t c : Str) : Str := nmS (t.length : Int) ++ ":" ++ t ++ c
def qs (q : Qd) : Sg := (q.1, q.2.1, wd q.2.2.1 q.2.2.2)
abbrev T3 : List Str := ["t", "u", "made\n"]
abbrev C3 : List Str := ["x", "y", ""]
theorem wd_inj : ∀ t ∈ T3, ∀ c ∈ C3, ∀ t' ∈ T3, ∀ c' ∈ C3, wd t c = wd t' c' → t = t' ∧ c = c' := by unfold wd nmS; decide +kernel
theorem wd_ok : ∀ t ∈ T3, ∀ c ∈ C3, (wd t c).length ≤ 30 ∧ (wd t c).cps.toList.all (fun c => decide (c < 128)) = true := by unfold wd nmS; decide +kernel
theorem t3_ok : ∀ t ∈ T3, t.length ≤ 5 ∧ t.cps.toList.all (fun c => decide (c < 128)) = true := by decide +kernel
theorem c3_ok : ∀ t ∈ C3, t.length ≤ 5 ∧ t.cps.toList.all (fun c => decide (c < 128)) = true := by decide +kernel
theorem hs_ok : ∀ t ∈ HS, t.length ≤ 2 ∧ t.cps.toList.all (fun c => decide (c < 128)) = true := by decide +kernel
theorem asc_all {z : Str} (h : z.cps.toList.all (fun c => decide (c < 128)) = true) : asc z := fun c m => of_decide_eq_true (List.all_eq_true.mp h c m)
def clF (cl : List (Str × Str)) (to : Str) : Option (Str × Str) := cl.find? fun p => decide (p.1 = to)
abbrev clD (cl : List (Str × Str)) : List (Key × D) := cl.map fun p => ((.inr p.1 : Key), D.str p.2)
abbrev ixD (ix : List (Str × Nat)) : List (Key × D) := ix.map fun p => ((.inr p.1 : Key), D.ref (p.2 + 1))
theorem val_cl (cl : List (Str × Str)) (to : Str) : valD (clD cl) (.inr to) = (clF cl to).map fun p => .str p.2 := val_rows D.str to cl
theorem val_ix (ix : List (Str × Nat)) (to : Str) : valD (ixD ix) (.inr to) = (ix.find? fun p => decide (p.1 = to)).map fun p => .ref (p.2 + 1) := val_rows (fun n => D.ref (n + 1)) to ix
/-- what the law's tables say -/
structure Bd (rv : List Str) (sg : List Qd) (vo : Str → List Sg) (cl : List (Str × Str)) (st : List Str) : Prop where
  R : Rq HS rv (sg.map qs)
  sq : ∀ q ∈ sg, q.2.2.1 ∈ T3 ∧ q.2.2.2 ∈ C3
  vb : ∀ x, ((vo x).map Prod.fst).Nodup ∧ ∀ v ∈ vo x, v.1 ∈ HS ∧ v.2.1 ∈ C3 ∧ okS v.2.2
  cn : (cl.map Prod.fst).Nodup
  cb : ∀ p ∈ cl, p.1 ∈ T3 ∧ p.2 ∈ C3 ∧ vo p.1 ≠ []
  sb : st.length ≤ 1000 ∧ ∀ x ∈ st, x ∈ HS
theorem Bd.vl {rv : List Str} {sg : List Qd} {vo : Str → List Sg} {cl : List (Str × Str)} {st : List Str} (B : Bd rv sg vo cl st) (x : Str) : (vo x).length ≤ 5 := by
  have := nd_sub ((vo x).map Prod.fst) HS (B.vb x).1 fun y m => by
    obtain ⟨v, mv, rfl⟩ := List.mem_map.mp m
    exact ((B.vb x).2 v mv).1
  rw [List.length_map] at this
  exact this
theorem Bd.cll {rv : List Str} {sg : List Qd} {vo : Str → List Sg} {cl : List (Str × Str)} {st : List Str} (B : Bd rv sg vo cl st) : cl.length ≤ 3 := by
  have := nd_sub (cl.map Prod.fst) T3 B.cn fun y m => by
    obtain ⟨v, mv, rfl⟩ := List.mem_map.mp m
    exact (B.cb v mv).1
  rw [List.length_map] at this
  exact this
/-- the roster's cells -/
structure Vw (need : Int) (rv : List Str) (sg : List Qd) (vo : Str → List Sg) (cl : List (Str × Str)) (st : List Str) (ix : List (Str × Nat)) (t : Hap) : Prop where
  i : t[0]? = some (ifz need)
  hh : t[1]? = some (.dct (hrD rv))
  ss : t[2]? = some (.dct (stD st))
  gg : t[3]? = some (.dct ((sg.map qs).map sgK))
  vv : t[4]? = some (.dct (ixD ix))
  cc : t[5]? = some (.dct (clD cl))
  inn : ∀ p ∈ ix, 14 ≤ p.2 ∧ t[p.2]? = some (.dct ((vo p.1).map sgK)) ∧ p.1 ∈ T3
  nx : (ix.map Prod.fst).Nodup
  ny : (ix.map Prod.snd).Nodup
  off : ∀ x, x ∉ ix.map Prod.fst → vo x = []
  wl : 14 ≤ t.length
/-- the law's -/
structure Tb (rv : List Str) (sg : List Qd) (vo : Str → List Sg) (cl : List (Str × Str)) (st : List Str) (t : Hap) : Prop where
  tp : t[6]? = some (.dct [(.inr "t", .ref 8), (.inr "u", .ref 9), (.inr "made\n", .ref 10)])
  tq : ∀ x ∈ T3, t[7 + T3.idxOf x]? = some (.lst ((vo x).map sgD))
  cc : t[10]? = some (.dct (clD cl))
  ss : t[11]? = some (.lst (st.map .str))
  rr : t[12]? = some (.lst (rv.map .str))
  gg : t[13]? = some (.lst (sg.map qdD))
def Fl (t t' : Hap) : Prop := (∀ j, j < 6 ∨ 14 ≤ j → t'[j]? = t[j]?) ∧ t.length ≤ t'.length
def Fr (t t' : Hap) : Prop := (∀ j, 6 ≤ j → j < 14 → t'[j]? = t[j]?) ∧ t.length ≤ t'.length
section
variable {need : Int} {rv : List Str} {sg : List Qd} {vo : Str → List Sg} {cl : List (Str × Str)} {st : List Str} {ix : List (Str × Nat)} {t t' h : Hap} {P : D → Hap → Prop} {to ho c m : Str} {env : Env} {Q : Ps}
theorem Fl.refl (t : Hap) : Fl t t := ⟨fun _ _ => rfl, Nat.le_refl _⟩
theorem Fl.trans {a b c : Hap} (x : Fl a b) (y : Fl b c) : Fl a c := ⟨fun j hj => (y.1 j hj).trans (x.1 j hj), Nat.le_trans x.2 y.2⟩
theorem Fl.set {i : Nat} {c : Cel} (h0 : 6 ≤ i) (h1 : i < 14) : Fl t (t.set i c) := ⟨fun j hj => List.getElem?_set_ne (by omega), by rw [List.length_set]; exact Nat.le_refl _⟩
theorem Fr.refl (t : Hap) : Fr t t := ⟨fun _ _ _ => rfl, Nat.le_refl _⟩
theorem Fr.trans {a b c : Hap} (x : Fr a b) (y : Fr b c) : Fr a c := ⟨fun j h0 h1 => (y.1 j h0 h1).trans (x.1 j h0 h1), Nat.le_trans x.2 y.2⟩
theorem Fr.set {i : Nat} {c : Cel} (h0 : i < 6 ∨ 14 ≤ i) : Fr t (t.set i c) := ⟨fun j h1 h2 => List.getElem?_set_ne (by omega), by rw [List.length_set]; exact Nat.le_refl _⟩
theorem Fr.app {c : Cel} (hl : 14 ≤ t.length) : Fr t (t ++ [c]) := ⟨fun j h1 h2 => List.getElem?_append_left (by omega), by rw [List.length_append]; omega⟩
theorem Vw.fl (W : Vw need rv sg vo cl st ix t) (f : Fl t t') : Vw need rv sg vo cl st ix t' :=
  ⟨(f.1 0 (by omega)).trans W.i, (f.1 1 (by omega)).trans W.hh, (f.1 2 (by omega)).trans W.ss, (f.1 3 (by omega)).trans W.gg, (f.1 4 (by omega)).trans W.vv, (f.1 5 (by omega)).trans W.cc, fun p mp => ⟨(W.inn p mp).1, (f.1 p.2 (.inr (W.inn p mp).1)).trans (W.inn p mp).2.1, (W.inn p mp).2.2⟩, W.nx, W.ny, W.off, Nat.le_trans W.wl f.2⟩
theorem Tb.fr (T : Tb rv sg vo cl st t) (f : Fr t t') : Tb rv sg vo cl st t' :=
  ⟨(f.1 6 (by omega) (by omega)).trans T.tp, fun x mx => (f.1 _ (by omega) (by have := List.idxOf_lt_length_of_mem mx; have : T3.length = 3 := rfl; omega)).trans (T.tq x mx), (f.1 10 (by omega) (by omega)).trans T.cc, (f.1 11 (by omega) (by omega)).trans T.ss, (f.1 12 (by omega) (by omega)).trans T.rr, (f.1 13 (by omega) (by omega)).trans T.gg⟩
theorem St.at9 (s : St t h) (i : Nat) : h[i + 1]? = t[i]? := by
  obtain ⟨a, b, c, rfl, _⟩ := s
  rfl
theorem St.set9 (s : St t h) (i : Nat) (c : Cel) : St (t.set i c) (h.set (i + 1) c) := by
  obtain ⟨a, b, d, rfl, z⟩ := s
  exact ⟨a, b, d, rfl, z⟩
theorem St.app9 (s : St t h) (c : Cel) : St (t ++ [c]) (h ++ [c]) := by
  obtain ⟨a, b, d, rfl, z⟩ := s
  exact ⟨a, b, d, rfl, z⟩
theorem St.len9 (s : St t h) : h.length = t.length + 1 := by
  obtain ⟨a, b, d, rfl, z⟩ := s
  rfl
/-- what comes of a voice -/
def dueV (need : Int) (rv : List Str) (to ho c m : Str) (vo : Str → List Sg) (cl : List (Str × Str)) (st : List Str) : Str × (Str → List Sg) × List (Str × Str) × List Str :=
  match getS (vo to) ho with
  | some r => if r.2.1 = c then ("again", vo, cl, st) else ("changed", vo, cl, st ++ [ho])
  | none => match clF cl to with
    | some p => if p.2 = c then ("alike", (fun x => if x = to then vo to ++ [(ho, c, m)] else vo x), cl, st) else ("otherwise", (fun x => if x = to then vo to ++ [(ho, c, m)] else vo x), cl, st ++ [ho])
    | none => if (((vo to ++ [(ho, c, m)]).filter fun v => decide (v.2.1 = c) && !decide (v.1 ∈ rv)).length : Int) < need then ("told", (fun x => if x = to then vo to ++ [(ho, c, m)] else vo x), cl, st)
      else ("settled", (fun x => if x = to then vo to ++ [(ho, c, m)] else vo x), cl ++ [(to, c)], st ++ ((vo to ++ [(ho, c, m)]).filter fun v => decide (v.2.1 ≠ c)).map Prod.fst)
end
end Vi

set_option Elab.async false
set_option linter.all false
set_option autoImplicit false
set_option maxRecDepth 100000
set_option maxHeartbeats 2000000
namespace Vi
open PySem PySem.Spec PyProof.Rows L2
open scoped Classical
local macro_rules | `(tactic| walk_at "x1") => `(tactic| with_reducible first
  | refine x_bin ?_ | refine x_tst ?_ | refine x_oB ?_ | refine x_c ?_ | refine s_seqA ?_ | refine s_seqU ?_ | refine s_seqE ?_ | refine s_seqN ?_ | refine s_seqD ?_ | refine s_seqF ?_ | refine s_seqL ?_ | refine s_asg' ?_ | refine s_if' ?_ | refine s_ret' ?_ | refine s_exp' ?_ | refine s_next ?_ | refine s_retN' ?_ | refine s_sub' ?_ | refine s_dsub' ?_ | refine s_setF' ?_ | refine s_ddel' ?_
  | refine x_cb ?_ | refine x_cons ?_ | refine x_nil ?_ | refine x_call ?_ | refine x_met ?_ | refine x_meth ?_ | refine x_make ?_ | refine x_fld ?_ | refine x_un ?_ | refine x_notT ?_ | refine x_andT ?_ | refine x_orT ?_ | refine x_and ?_ | refine x_or ?_ | refine x_not ?_ | refine x_if ?_
  | refine x_tup ?_ | refine x_lst ?_ | refine x_cel ?_ | refine x_dnew ?_ | refine x_sortIt ?_ | refine x_sl ?_ | refine x_noP ?_ | refine x_part ?_ | refine x_oI ?_ | refine x_mI ?_ | refine x_rng ?_ | refine x_yes ?_ | refine x_chn ?_ | refine x_fun ?_ | refine x_ok ?_)
local macro_rules | `(tactic| walk_at "x2") => `(tactic| first
  | ((with_reducible refine y_var ?_); refine ⟨_, rfl, ?_⟩)
  | ((with_reducible refine y_some ?_); refine ⟨_, rfl, ?_⟩)
  | ((with_reducible refine y_gP ?_); refine ⟨_, rfl, ?_⟩))
local macro_rules | `(tactic| walk_at "x") => `(tactic| repeat (first | walk_at "x1" | walk_at "x2" ))
local macro_rules | `(tactic| walk_at "nx") => `(tactic| (refine next_k (by assumption) (by assumption) (by first | decide | omega) (by first | decide | omega) ?_))
theorem isl9 {i : Nat} {xs : List D} {h : Hap} (e : h[i]? = some (.lst xs)) : isT "list" (.ref i) h = true := by
  unfold isT
  simp only []
  rw [e]
  rfl
theorem sq9 {i : Nat} {xs : List D} {h : Hap} (e : h[i]? = some (.lst xs)) : seqOf (.ref i) h = some xs := by
  simp [seqOf, getQ, getL, e]
theorem sgD_inj {a b : Sg} (e : sgD a = sgD b) : a = b := by
  obtain ⟨a1, a2, a3⟩ := a
  obtain ⟨b1, b2, b3⟩ := b
  unfold sgD at e
  simp only [D.tup.injEq, List.cons.injEq, D.str.injEq, and_true] at e
  obtain ⟨rfl, rfl, rfl⟩ := e
  rfl
theorem t3_inj : ∀ x ∈ T3, ∀ y ∈ T3, T3.idxOf x = T3.idxOf y → x = y := by decide +kernel
theorem tp_val : ∀ x ∈ T3, valD [((.inr "t" : Key), D.ref 8), (.inr "u", .ref 9), (.inr "made\n", .ref 10)] (.inr x) = some (.ref (8 + T3.idxOf x)) := by
  intro x m
  simp only [List.mem_cons, List.not_mem_nil, or_false] at m
  rcases m with rfl | rfl | rfl <;> rfl
theorem t3_lt {x : Str} (m : x ∈ T3) : T3.idxOf x < 3 := List.idxOf_lt_length_of_mem m
section
variable {need : Int} {rv : List Str} {sg : List Qd} {vo : Str → List Sg} {cl : List (Str × Str)} {st : List Str} {ix : List (Str × Nat)} {t t' h : Hap} {P : D → Hap → Prop} {to ho c m : Str} {env : Env} {Q : Ps}
theorem Tb.len (T : Tb rv sg vo cl st t) : 13 < t.length := (List.getElem?_eq_some_iff.mp T.gg).1
theorem Tb.say (T : Tb rv sg vo cl st t) (mt : to ∈ T3) (ys : List Sg) : Tb rv sg (fun x => if x = to then ys else vo x) cl st (t.set (7 + T3.idxOf to) (.lst (ys.map sgD))) := by
  have h3 := t3_lt mt
  have hl := T.len
  refine ⟨by rw [List.getElem?_set_ne (by omega)]; exact T.tp, fun x mx => ?_, by rw [List.getElem?_set_ne (by omega)]; exact T.cc, by rw [List.getElem?_set_ne (by omega)]; exact T.ss, by rw [List.getElem?_set_ne (by omega)]; exact T.rr, by rw [List.getElem?_set_ne (by omega)]; exact T.gg⟩
  by_cases e : x = to
  · subst e
    rw [List.getElem?_set_self (by omega), if_pos rfl]
  · rw [List.getElem?_set_ne (fun z => e (t3_inj x mx to mt (by omega))), if_neg e]
    exact T.tq x mx
theorem Tb.strike (T : Tb rv sg vo cl st t) (st' : List Str) : Tb rv sg vo cl st' (t.set 11 (.lst (st'.map .str))) := by
  have hl := T.len
  refine ⟨by rw [List.getElem?_set_ne (by omega)]; exact T.tp, fun x mx => ?_, by rw [List.getElem?_set_ne (by omega)]; exact T.cc, by rw [List.getElem?_set_self (by omega)], by rw [List.getElem?_set_ne (by omega)]; exact T.rr, by rw [List.getElem?_set_ne (by omega)]; exact T.gg⟩
  have := t3_lt mx
  rw [List.getElem?_set_ne (by omega)]
  exact T.tq x mx
theorem Tb.settle (T : Tb rv sg vo cl st t) (cl' : List (Str × Str)) : Tb rv sg vo cl' st (t.set 10 (.dct (clD cl'))) := by
  have hl := T.len
  refine ⟨by rw [List.getElem?_set_ne (by omega)]; exact T.tp, fun x mx => ?_, by rw [List.getElem?_set_self (by omega)], by rw [List.getElem?_set_ne (by omega)]; exact T.ss, by rw [List.getElem?_set_ne (by omega)]; exact T.rr, by rw [List.getElem?_set_ne (by omega)]; exact T.gg⟩
  have := t3_lt mx
  rw [List.getElem?_set_ne (by omega)]
  exact T.tq x mx
theorem x_app9 {i : Nat} {xs : List D} {y : D} {o e : ME} (ho : ∀ P : D → Hap → Prop, P (.ref i) h → Sat (o env h) P) (he : ∀ P : D → Hap → Prop, P y h → Sat (e env h) P) (g : h[i]? = some (.lst xs)) (hl : xs.length < 1000000) (p : P .non (h.set i (.lst (xs ++ [y])))) : Sat (mMet "list" gAppend o (mCons e mNil) env h) P :=
  x_met (ho _ ⟨isl9 g, x_cons (he _ (x_nil (v_app g hl p)))⟩)
theorem due6_k (B : Bd rv sg vo cl st) (T : Tb rv sg vo cl st t) (s : St t h) (mt : to ∈ T3) (mh : ho ∈ HS)
    (k : ∀ t' h', St t' h' → Tb rv sg (dueV need rv to ho c m vo cl st).2.1 (dueV need rv to ho c m vo cl st).2.2.1 (dueV need rv to ho c m vo cl st).2.2.2 t' → Fl t t' → P (.str (dueV need rv to ho c m vo cl st).1) h') :
    Sat (Mi.m_law_due_6 [.ref 7, .ref 11, .ref 12, .ref 13, .int need, .tup [.str to, .str ho, .str c, .str m]] h) P := by
  unfold Mi.m_law_due_6 Mi.b_law_due_6
  have h3 := t3_lt mt
  have hl := T.len
  have h7 := (s.at9 6).trans T.tp
  have hv := (s.at9 _).trans (T.tq to mt)
  have h12 := (s.at9 11).trans T.ss
  have vb := B.vb to
  have vl := B.vl to
  have sl := B.sb.1
  refine x_fun (s_seq (s_asgT (x_var rfl ⟨_, rfl, ?_⟩)))
  dsimp only
  refine s_seq (s_asg' (x_bin (x_var rfl (x_var rfl (v_dsub h7 (tp_val to mt) ?_)))))
  rw [show 8 + T3.idxOf to = 7 + T3.idxOf to + 1 by omega]
  refine s_seq (s_look ((vo to).map sgD) (fun e => ∃ a, e = [some (.ref 7), some (.ref 11), some (.ref 12), some (.ref 13), some (.int need), some (.tup [.str to, .str ho, .str c, .str m]), some (.str to), some (.str ho), some (.str c), some (.str m), some (.ref (7 + T3.idxOf to + 1)), a]) (fun y => ∃ v ∈ vo to, y = sgD v ∧ v.1 ≠ ho) (x_items (dd := .ref (7 + T3.idxOf to + 1)) (sq9 hv) (x_var rfl ⟨rfl, rfl⟩)) ⟨_, rfl⟩ (fun y my e i => ?_) fun e i hg => ?_)
  · obtain ⟨a, rfl⟩ := i
    obtain ⟨⟨vh, vc, vm⟩, mv, rfl⟩ := List.mem_map.mp my
    refine ⟨_, rfl, ?_⟩
    refine s_if' (x_tst (x_bin (x_bin (x_var rfl (x_c (x_some (d := .str vh) rfl (x_var rfl (x_some (d := .bl (decide (vh = ho))) rfl (x_oB ⟨fun e => ?_, fun e => ?_⟩)))))))))
    · have e : vh = ho := of_decide_eq_true e
      subst e
      have gs : ∃ r, getS (vo to) vh = some r ∧ r.2.1 = vc := by
        rcases get_mem vb.1 vh vc vm with ⟨_, z⟩ | ⟨r, g1, g2⟩
        · exact absurd mv z
        · exact ⟨r, g1, (g2.mp mv).1⟩
      obtain ⟨r, g1, g2⟩ := gs
      refine s_seq (s_if' (x_tst (x_bin (x_bin (x_var rfl (x_c (x_some (d := .str vc) rfl (x_var rfl (x_some (d := .bl (decide (vc = c))) rfl (x_oB ⟨fun e => ?_, fun e => ?_⟩))))))))))
      · have e : vc = c := of_decide_eq_true e
        have kk : dueV need rv to vh c m vo cl st = (("again" : Str), vo, cl, st) := by unfold dueV; rw [g1]; simp only []; rw [if_pos (g2.trans e)]
        rw [kk] at k
        exact s_ret' (x_c (k t h s T (Fl.refl t)))
      · have e : ¬ vc = c := of_decide_eq_false e
        have kk : dueV need rv to vh c m vo cl st = (("changed" : Str), vo, cl, st ++ [vh]) := by unfold dueV; rw [g1]; simp only []; rw [if_neg (fun z => e (g2.symm.trans z))]
        rw [kk] at k
        refine s_next ?_
        dsimp only
        refine s_seq (s_exp' (x_app9 (fun P p => x_var rfl p) (fun P p => x_var rfl p) h12 (by rw [List.length_map]; omega) ?_))
        have e1 : st.map D.str ++ [D.str vh] = (st ++ [vh]).map D.str := by rw [List.map_append]; rfl
        rw [e1]
        dsimp only at k ⊢
        refine s_ret' (x_c ?_)
        exact k _ _ (s.set9 11 _) (T.strike _) (Fl.set (by decide) (by decide))
    · have e : ¬ vh = ho := of_decide_eq_false e
      exact s_next ⟨rfl, ⟨_, rfl⟩, _, mv, rfl, e⟩
  obtain ⟨a, rfl⟩ := i
  have gn : getS (vo to) ho = none := by
    unfold getS
    refine List.find?_eq_none.mpr fun v mv z => ?_
    obtain ⟨v2, _, e, n⟩ := hg _ (List.mem_map.mpr ⟨v, mv, rfl⟩)
    rw [← sgD_inj e] at n
    exact n (of_decide_eq_true z)
  clear hg
  dsimp only
  refine s_seq (s_exp' (x_app9 (y := sgD (ho, c, m)) (fun P p => x_var rfl p) (fun P p => x_tup (x_cons (x_var rfl (x_cons (x_var rfl (x_cons (x_var rfl (x_nil ⟨sl_le (show 3 ≤ 16777216 by decide), p⟩)))))))) hv (by rw [List.length_map]; omega) ?_))
  have e1 : (vo to).map sgD ++ [sgD (ho, c, m)] = (vo to ++ [(ho, c, m)]).map sgD := by rw [List.map_append]; rfl
  rw [e1]
  have s1 := s.set9 (7 + T3.idxOf to) (.lst ((vo to ++ [(ho, c, m)]).map sgD))
  have T1 := T.say mt (vo to ++ [(ho, c, m)])
  have F1 : Fl t (t.set (7 + T3.idxOf to) (.lst ((vo to ++ [(ho, c, m)]).map sgD))) := Fl.set (by omega) (by omega)
  generalize t.set (7 + T3.idxOf to) (.lst ((vo to ++ [(ho, c, m)]).map sgD)) = t1 at s1 T1 F1
  generalize h.set (7 + T3.idxOf to + 1) (.lst ((vo to ++ [(ho, c, m)]).map sgD)) = h1 at s1
  have h11 := (s1.at9 10).trans T1.cc
  have g12 := (s1.at9 11).trans T1.ss
  have g13 := (s1.at9 12).trans T1.rr
  have gv := (s1.at9 _).trans (T1.tq to mt)
  rw [if_pos rfl] at gv
  have gl := T1.len
  clear hv h7 h12 T s
  refine s_seq (s_if' (x_tst (x_bin (x_var rfl (x_var rfl (v_din (b := (clF cl to).isSome) h11 (by rw [val_cl, Option.isSome_map]) (x_oB ⟨fun e => ?_, fun e => ?_⟩)))))))
  · obtain ⟨p, ep⟩ := Option.isSome_iff_exists.mp e
    refine s_seq (s_if' (x_tst (x_bin (x_bin (x_var rfl (x_var rfl (v_dsub h11 (d := .str p.2) (by rw [val_cl, ep]; rfl) (x_var rfl (x_some (d := .bl (decide (p.2 = c))) rfl (x_oB ⟨fun e => ?_, fun e => ?_⟩))))))))))
    · have e : p.2 = c := of_decide_eq_true e
      have kk : dueV need rv to ho c m vo cl st = (("alike" : Str), (fun x => if x = to then vo to ++ [(ho, c, m)] else vo x), cl, st) := by unfold dueV; rw [gn, ep]; simp only []; rw [if_pos e]
      rw [kk] at k
      exact s_ret' (x_c (k t1 h1 s1 T1 F1))
    · have e : ¬ p.2 = c := of_decide_eq_false e
      have kk : dueV need rv to ho c m vo cl st = (("otherwise" : Str), (fun x => if x = to then vo to ++ [(ho, c, m)] else vo x), cl, st ++ [ho]) := by unfold dueV; rw [gn, ep]; simp only []; rw [if_neg e]
      rw [kk] at k
      refine s_next ?_
      dsimp only
      refine s_seq (s_exp' (x_app9 (fun P p => x_var rfl p) (fun P p => x_var rfl p) g12 (by rw [List.length_map]; omega) ?_))
      have e1 : st.map D.str ++ [D.str ho] = (st ++ [ho]).map D.str := by rw [List.map_append]; rfl
      rw [e1]
      dsimp only at k ⊢
      refine s_ret' (x_c ?_)
      exact k _ _ (s1.set9 11 _) (T1.strike _) (F1.trans (Fl.set (by decide) (by decide)))
  have ep : clF cl to = none := by simpa using e
  refine s_next ?_
  dsimp only
  have vl1 : (vo to ++ [(ho, c, m)]).length ≤ 6 := by rw [List.length_append, List.length_singleton]; omega
  have k1 := k
  unfold dueV at k1
  rw [gn, ep] at k1
  simp only [] at k1
  generalize ev : vo to ++ [(ho, c, m)] = vs at gv vl1 k1 T1
  clear k
  refine s_seq (s_if' (x_tst (x_bin (x_cb (x_cons (x_compFM (vs.map sgD) (fun d => match d with
    | .tup [.str a, .str b, _] => decide (b = c) && !decide (a ∈ rv)
    | _ => false) (fun _ => .int 1) (by rw [List.length_map]; exact sl_le (by omega)) (x_items (dd := .ref (7 + T3.idxOf to + 1)) (sq9 gv) (x_var rfl ⟨rfl, rfl⟩)) (fun d md => ?_) ?_))))))
  · obtain ⟨⟨vh, vc, vm⟩, mv, rfl⟩ := List.mem_map.mp md
    refine ⟨_, rfl, x_andT (x_tst (x_bin (x_bin (x_var rfl (x_c (x_some (d := .str vc) rfl (x_var rfl (x_some (d := .bl (decide (vc = c))) rfl (x_oB ⟨fun e => ?_, fun e => ?_⟩)))))))))⟩
    · refine x_tst (x_bin (x_bin (x_var rfl (x_c (x_some (d := .str vh) rfl (x_var rfl (x_some (d := .bl (!decide (vh ∈ rv))) ?_ (x_oB ⟨rfl, ?_, fun _ => x_c ⟨rfl, rfl⟩⟩))))))))
      · unfold dNotIn
        rw [in_ref g13]
        rfl
      · show (!decide (vh ∈ rv)) = (decide (vc = c) && !decide (vh ∈ rv))
        rw [e, Bool.true_and]
    · refine ⟨rfl, ?_, fun z => nomatch z⟩
      show false = (decide (vc = c) && !decide (vh ∈ rv))
      rw [e, Bool.false_and]
  have eg : ((vs.map sgD).filter (fun d => match d with
    | .tup [.str a, .str b, _] => decide (b = c) && !decide (a ∈ rv)
    | _ => false)).length = (vs.filter fun v => decide (v.2.1 = c) && !decide (v.1 ∈ rv)).length := by
    rw [List.filter_map, List.length_map]
    rfl
  refine x_nil (v_lenQ (by rfl) (fun z => by simp) ?_)
  rw [List.length_map, eg]
  refine x_var rfl (x_some (d := .bl (decide (((vs.filter fun v => decide (v.2.1 = c) && !decide (v.1 ∈ rv)).length : Int) < need))) rfl (x_oB ⟨fun e => ?_, fun e => ?_⟩))
  · have e := of_decide_eq_true e
    rw [if_pos e] at k1
    exact s_ret' (x_c (k1 t1 h1 s1 T1 F1))
  have e := of_decide_eq_false e
  rw [if_neg e] at k1
  refine s_next ?_
  dsimp only
  refine s_seq (s_dsub' (x_var rfl (x_var rfl (x_var rfl ⟨_, sdix_at h11 (by rw [List.length_map]; have := B.cll; omega), ?_⟩))))
  rw [put_rows (f := D.str) (fun p mp => by simpa using List.find?_eq_none.mp ep p mp)]
  have e2 : clD cl ++ [((.inr to : Key), D.str c)] = clD (cl ++ [(to, c)]) := by unfold clD; rw [List.map_append]; rfl
  have e3 : (cl.map fun p => ((.inr p.1 : Key), D.str p.2)) ++ [((.inr to : Key), D.str c)] = clD (cl ++ [(to, c)]) := e2
  rw [e3]
  have s2 := s1.set9 10 (.dct (clD (cl ++ [(to, c)])))
  have T2 := T1.settle (cl ++ [(to, c)])
  have F2 : Fl t (t1.set 10 (.dct (clD (cl ++ [(to, c)])))) := F1.trans (Fl.set (by decide) (by decide))
  dsimp only
  refine s_seq (s_forI (fun pre post e h' => ∃ (pv : List Sg) (a : Option D) (t' : Hap), pre = pv.map sgD ∧ e = [some (.ref 7), some (.ref 11), some (.ref 12), some (.ref 13), some (.int need), some (.tup [.str to, .str ho, .str c, .str m]), some (.str to), some (.str ho), some (.str c), some (.str m), some (.ref (7 + T3.idxOf to + 1)), a] ∧ St t' h' ∧ Tb rv sg (fun x => if x = to then vs else vo x) (cl ++ [(to, c)]) (st ++ (pv.filter fun v => decide (v.2.1 ≠ c)).map Prod.fst) t' ∧ Fl t t' ∧ pv.length ≤ pre.length) ?_)
  have sqv : ∀ {t' h' : Hap} {cl : List (Str × Str)} {st : List Str}, St t' h' → Tb rv sg (fun x => if x = to then vs else vo x) cl st t' → seqOf (.ref (7 + T3.idxOf to + 1)) h' = some (vs.map sgD) := fun s' T' => by
    have := (s'.at9 _).trans (T'.tq to mt)
    rw [if_pos rfl] at this
    exact sq9 this
  have T2' : Tb rv sg (fun x => if x = to then vs else vo x) (cl ++ [(to, c)]) st (t1.set 10 (.dct (clD (cl ++ [(to, c)])))) := T2
  refine x_mI (x_var rfl ⟨vs.map sgD, sqv s2 T2', ⟨[], _, _, rfl, rfl, s2, by rw [List.filter_nil, List.map_nil, List.append_nil]; exact T2', F2, Nat.le_refl _⟩, ?_, ?_, ?_⟩)
  · rintro pre post e h' _ ⟨pv, a, t', _, _, s', T', _⟩
    exact sqv s' T'
  · rintro pre y post e h' hx ⟨pv, a, t', rfl, rfl, s', T', F', hp⟩
    have hx : vs.map sgD = _ := hx
    have my : y ∈ vs.map sgD := by rw [hx]; simp
    obtain ⟨⟨vh, vc, vm⟩, mv, rfl⟩ := List.mem_map.mp my
    have lp : (pv.map sgD).length ≤ 6 := by
      have := congrArg List.length hx
      rw [List.length_map, List.length_append, List.length_cons] at this
      omega
    rw [List.length_map] at lp
    refine ⟨_, rfl, ?_⟩
    have ea : pv.map sgD ++ [sgD (vh, vc, vm)] = (pv ++ [(vh, vc, vm)]).map sgD := by rw [List.map_append]; rfl
    rw [ea]
    refine s_if' (x_tst (x_bin (x_bin (x_var rfl (x_c (x_some (d := .str vc) rfl (x_var rfl (x_some (d := .bl (!decide (vc = c))) rfl (x_oB ⟨fun e => ?_, fun e => ?_⟩)))))))))
    · have e : ¬ vc = c := by simpa using e
      refine s_exp' (x_app9 (y := .str vh) (fun P p => x_var rfl p) (fun P p => x_bin (x_var rfl (x_c (x_some (d := .str vh) rfl p)))) ((s'.at9 11).trans T'.ss) ?_ ?_)
      · rw [List.length_map, List.length_append, List.length_map]
        have := List.length_filter_le (fun v : Sg => decide (v.2.1 ≠ c)) pv
        omega
      have e5 : (st ++ (pv.filter fun v => decide (v.2.1 ≠ c)).map Prod.fst).map D.str ++ [D.str vh] = (st ++ ((pv ++ [(vh, vc, vm)]).filter fun v => decide (v.2.1 ≠ c)).map Prod.fst).map D.str := by
        rw [List.filter_append, List.filter_cons_of_pos (by simpa using e), List.filter_nil]
        simp
      rw [e5]
      exact ⟨pv ++ [(vh, vc, vm)], _, _, rfl, rfl, s'.set9 11 _, T'.strike _, F'.trans (Fl.set (by decide) (by decide)), by rw [List.length_map]; exact Nat.le_refl _⟩
    · have e : vc = c := by simpa using e
      refine s_next ⟨pv ++ [(vh, vc, vm)], _, _, rfl, rfl, s', ?_, F', by rw [List.length_map]; exact Nat.le_refl _⟩
      rw [List.filter_append, List.filter_cons_of_neg (by simpa using e), List.filter_nil, List.append_nil]
      exact T'
  · rintro e h' ⟨pv, a, t', hx, rfl, s', T', F', _⟩
    have hx : vs.map sgD = pv.map sgD := hx
    have : vs = pv := (List.map_inj_right fun a b e => sgD_inj e).mp hx
    subst this
    dsimp only
    refine s_ret' (x_c ?_)
    exact k1 t' h' s' T' F'
end
end Vi

set_option Elab.async false
set_option linter.all false
set_option autoImplicit false
set_option maxRecDepth 100000
set_option maxHeartbeats 2000000
namespace Vi
open PySem PySem.Spec PyProof.Rows L2
open scoped Classical
local macro_rules | `(tactic| walk_at "x1") => `(tactic| with_reducible first
  | refine x_bin ?_ | refine x_tst ?_ | refine x_oB ?_ | refine x_c ?_ | refine s_seqA ?_ | refine s_seqU ?_ | refine s_seqE ?_ | refine s_seqN ?_ | refine s_seqD ?_ | refine s_seqF ?_ | refine s_seqL ?_ | refine s_asg' ?_ | refine s_if' ?_ | refine s_ret' ?_ | refine s_exp' ?_ | refine s_next ?_ | refine s_retN' ?_ | refine s_sub' ?_ | refine s_dsub' ?_ | refine s_setF' ?_ | refine s_ddel' ?_
  | refine x_cb ?_ | refine x_cons ?_ | refine x_nil ?_ | refine x_call ?_ | refine x_met ?_ | refine x_meth ?_ | refine x_make ?_ | refine x_fld ?_ | refine x_un ?_ | refine x_notT ?_ | refine x_andT ?_ | refine x_orT ?_ | refine x_and ?_ | refine x_or ?_ | refine x_not ?_ | refine x_if ?_
  | refine x_tup ?_ | refine x_lst ?_ | refine x_cel ?_ | refine x_dnew ?_ | refine x_sortIt ?_ | refine x_sl ?_ | refine x_noP ?_ | refine x_part ?_ | refine x_oI ?_ | refine x_mI ?_ | refine x_rng ?_ | refine x_yes ?_ | refine x_chn ?_ | refine x_fun ?_ | refine x_ok ?_)
local macro_rules | `(tactic| walk_at "x2") => `(tactic| first
  | ((with_reducible refine y_var ?_); refine ⟨_, rfl, ?_⟩)
  | ((with_reducible refine y_some ?_); refine ⟨_, rfl, ?_⟩)
  | ((with_reducible refine y_gP ?_); refine ⟨_, rfl, ?_⟩))
local macro_rules | `(tactic| walk_at "x") => `(tactic| repeat (first | walk_at "x1" | walk_at "x2" ))
local macro_rules | `(tactic| walk_at "nx") => `(tactic| (refine next_k (by assumption) (by assumption) (by first | decide | omega) (by first | decide | omega) ?_))
theorem x_lokE9 {i j : Nat} {m : ME} {env : Env} {h : Hap} {kds : List (Key × D)} {P : D → Hap → Prop} (ei : env[i]? = some (some (.ref j))) (hj : h[j]? = some (.dct kds)) (s : Sat (m env (h.set j (.lok kds))) fun d h2 => h2[j]? = some (.lok kds) ∧ P d (h2.set j (.dct kds))) : Sat (mLokE i m env h) P := by
  unfold mLokE
  rw [ei]
  simp only []
  rw [hj]
  simp only []
  revert s
  cases m env (h.set j (.lok kds)) with
  | ok d h2 =>
    intro s
    have s : h2[j]? = some (.lok kds) ∧ P d (h2.set j (.dct kds)) := s
    simp only []
    rw [if_pos s.1]
    exact s.2
  | err => exact fun s => s.elim
  | stuck => exact fun s => s.elim
theorem x_IK9 {i j : Nat} {env : Env} {h : Hap} {kds : List (Key × D)} (ei : env[i]? = some (some (.ref j))) (hj : h[j]? = some (.lok kds)) : Sat (mIK i env h) fun s h1 => h1 = h ∧ s.1 = kds.map (fun kv => keyV kv.1) ∧ s.2 h := by
  unfold mIK
  rw [ei]
  simp only []
  rw [hj]
  exact ⟨rfl, rfl, hj⟩
theorem s_lokS9 {Q : Ps} {env : Env} {h : Hap} {g : Env → Hap → Option Nat} {j : Nat} {m : MS} {kds : List (Key × D)} (eg : g env h = some j) (hj : h[j]? = some (.dct kds))
    (s : SatS (m env (h.set j (.lok kds))) ⟨fun e h2 => h2[j]? = some (.lok kds) ∧ Q.n e (h2.set j (.dct kds)), fun d h2 => h2[j]? = some (.lok kds) ∧ Q.r d (h2.set j (.dct kds)), fun e h2 => h2[j]? = some (.lok kds) ∧ Q.b e (h2.set j (.dct kds)), fun e h2 => h2[j]? = some (.lok kds) ∧ Q.c e (h2.set j (.dct kds))⟩) : SatS (mLokS g m env h) Q := by
  unfold mLokS
  rw [eg]
  simp only []
  rw [hj]
  simp only []
  revert s
  cases m env (h.set j (.lok kds)) with
  | nx e h2 =>
    intro s
    have s : h2[j]? = some (.lok kds) ∧ Q.n e (h2.set j (.dct kds)) := s
    simp only []
    rw [if_pos s.1]
    exact s.2
  | bk e h2 =>
    intro s
    have s : h2[j]? = some (.lok kds) ∧ Q.b e (h2.set j (.dct kds)) := s
    simp only []
    rw [if_pos s.1]
    exact s.2
  | ct e h2 =>
    intro s
    have s : h2[j]? = some (.lok kds) ∧ Q.c e (h2.set j (.dct kds)) := s
    simp only []
    rw [if_pos s.1]
    exact s.2
  | rt d h2 =>
    intro s
    have s : h2[j]? = some (.lok kds) ∧ Q.r d (h2.set j (.dct kds)) := s
    simp only []
    rw [if_pos s.1]
    exact s.2
  | er => exact fun s => s.elim
  | stuck => exact fun s => s.elim
theorem back9 {i : Nat} {c : Cel} {h : Hap} (e : h[i]? = some c) (x : Cel) : (h.set i x).set i c = h := by
  rw [List.set_set]
  refine List.ext_getElem? fun q => ?_
  by_cases z : i = q
  · subst z
    rw [List.getElem?_set_self (List.getElem?_eq_some_iff.mp e).1, e]
  · rw [List.getElem?_set_ne z]
theorem set_id9 {i : Nat} {c : Cel} {h : Hap} (e : h[i]? = some c) : h.set i c = h := by
  refine List.ext_getElem? fun q => ?_
  by_cases z : i = q
  · subst z
    rw [List.getElem?_set_self (List.getElem?_eq_some_iff.mp e).1, e]
  · rw [List.getElem?_set_ne z]
theorem getS_at {vs : List Sg} (n : (vs.map Prod.fst).Nodup) {v : Sg} (m : v ∈ vs) : getS vs v.1 = some v := find_fst n m rfl
def clO (cl : List (Str × Str)) (to : Str) : D := ((clF cl to).map fun p => D.str p.2).getD .non
section
variable {need : Int} {rv : List Str} {sg : List Qd} {vo : Str → List Sg} {cl : List (Str × Str)} {st : List Str} {ix : List (Str × Nat)} {t t' h : Hap} {P : D → Hap → Prop} {to ho c m : Str} {env : Env} {Q : Ps}
theorem Vw.hi (W : Vw need rv sg vo cl st ix t) (s : St t h) : h[1]? = some (ifz need) := (s.at9 0).trans W.i
theorem Vw.h2 (W : Vw need rv sg vo cl st ix t) (s : St t h) : h[2]? = some (.dct (hrD rv)) := (s.at9 1).trans W.hh
theorem Vw.h3 (W : Vw need rv sg vo cl st ix t) (s : St t h) : h[3]? = some (.dct (stD st)) := (s.at9 2).trans W.ss
theorem Vw.h4 (W : Vw need rv sg vo cl st ix t) (s : St t h) : h[4]? = some (.dct ((sg.map qs).map sgK)) := (s.at9 3).trans W.gg
theorem Vw.h5 (W : Vw need rv sg vo cl st ix t) (s : St t h) : h[5]? = some (.dct (ixD ix)) := (s.at9 4).trans W.vv
theorem Vw.h6 (W : Vw need rv sg vo cl st ix t) (s : St t h) : h[6]? = some (.dct (clD cl)) := (s.at9 5).trans W.cc
theorem Vw.ixl (W : Vw need rv sg vo cl st ix t) : ix.length ≤ 3 := by
  have := nd_sub (ix.map Prod.fst) T3 W.nx fun y m => by
    obtain ⟨v, mv, rfl⟩ := List.mem_map.mp m
    exact (W.inn v mv).2.2
  rw [List.length_map] at this
  exact this
theorem Vw.lt (W : Vw need rv sg vo cl st ix t) {p : Str × Nat} (m : p ∈ ix) : p.2 < t.length := (List.getElem?_eq_some_iff.mp (W.inn p m).2.1).1
/-- where a topic's voices stand -/
theorem Vw.find (W : Vw need rv sg vo cl st ix t) (to : Str) : (∃ p, p ∈ ix ∧ p.1 = to ∧ valD (ixD ix) (.inr to) = some (.ref (p.2 + 1))) ∨ (to ∉ ix.map Prod.fst ∧ valD (ixD ix) (.inr to) = none ∧ vo to = []) := by
  by_cases m : to ∈ ix.map Prod.fst
  · obtain ⟨p, mp, e⟩ := List.mem_map.mp m
    refine .inl ⟨p, mp, e, ?_⟩
    rw [val_ix, find_fst W.nx mp e]
    rfl
  · refine .inr ⟨m, ?_, W.off to m⟩
    rw [val_ix, find_no fun p mp e => m (List.mem_map.mpr ⟨p, mp, e⟩)]
    rfl
theorem Vw.app (W : Vw need rv sg vo cl st ix t) (c : Cel) : Vw need rv sg vo cl st ix (t ++ [c]) := by
  have w := W.wl
  refine ⟨?_, ?_, ?_, ?_, ?_, ?_, fun p mp => ⟨(W.inn p mp).1, ?_, (W.inn p mp).2.2⟩, W.nx, W.ny, W.off, by rw [List.length_append]; omega⟩
  · rw [List.getElem?_append_left (by omega)]; exact W.i
  · rw [List.getElem?_append_left (by omega)]; exact W.hh
  · rw [List.getElem?_append_left (by omega)]; exact W.ss
  · rw [List.getElem?_append_left (by omega)]; exact W.gg
  · rw [List.getElem?_append_left (by omega)]; exact W.vv
  · rw [List.getElem?_append_left (by omega)]; exact W.cc
  · rw [List.getElem?_append_left (W.lt mp)]; exact (W.inn p mp).2.1
theorem Vw.strike (W : Vw need rv sg vo cl st ix t) (st' : List Str) : Vw need rv sg vo cl st' ix (t.set 2 (.dct (stD st'))) := by
  have w := W.wl
  refine ⟨?_, ?_, ?_, ?_, ?_, ?_, fun p mp => ⟨(W.inn p mp).1, ?_, (W.inn p mp).2.2⟩, W.nx, W.ny, W.off, by rw [List.length_set]; exact w⟩
  · rw [List.getElem?_set_ne (by omega)]; exact W.i
  · rw [List.getElem?_set_ne (by omega)]; exact W.hh
  · rw [List.getElem?_set_self (by omega)]
  · rw [List.getElem?_set_ne (by omega)]; exact W.gg
  · rw [List.getElem?_set_ne (by omega)]; exact W.vv
  · rw [List.getElem?_set_ne (by omega)]; exact W.cc
  · rw [List.getElem?_set_ne (by have := (W.inn p mp).1; omega)]; exact (W.inn p mp).2.1
theorem Vw.settle (W : Vw need rv sg vo cl st ix t) (cl' : List (Str × Str)) : Vw need rv sg vo cl' st ix (t.set 5 (.dct (clD cl'))) := by
  have w := W.wl
  refine ⟨?_, ?_, ?_, ?_, ?_, ?_, fun p mp => ⟨(W.inn p mp).1, ?_, (W.inn p mp).2.2⟩, W.nx, W.ny, W.off, by rw [List.length_set]; exact w⟩
  · rw [List.getElem?_set_ne (by omega)]; exact W.i
  · rw [List.getElem?_set_ne (by omega)]; exact W.hh
  · rw [List.getElem?_set_ne (by omega)]; exact W.ss
  · rw [List.getElem?_set_ne (by omega)]; exact W.gg
  · rw [List.getElem?_set_ne (by omega)]; exact W.vv
  · rw [List.getElem?_set_self (by omega)]
  · rw [List.getElem?_set_ne (by have := (W.inn p mp).1; omega)]; exact (W.inn p mp).2.1
theorem Vw.say (W : Vw need rv sg vo cl st ix t) {p : Str × Nat} (mp : p ∈ ix) (ys : List Sg) : Vw need rv sg (fun x => if x = p.1 then ys else vo x) cl st ix (t.set p.2 (.dct (ys.map sgK))) := by
  have w := W.wl
  have p14 := (W.inn p mp).1
  refine ⟨?_, ?_, ?_, ?_, ?_, ?_, fun q mq => ⟨(W.inn q mq).1, ?_, (W.inn q mq).2.2⟩, W.nx, W.ny, fun x hx => ?_, by rw [List.length_set]; exact w⟩
  · rw [List.getElem?_set_ne (by omega)]; exact W.i
  · rw [List.getElem?_set_ne (by omega)]; exact W.hh
  · rw [List.getElem?_set_ne (by omega)]; exact W.ss
  · rw [List.getElem?_set_ne (by omega)]; exact W.gg
  · rw [List.getElem?_set_ne (by omega)]; exact W.vv
  · rw [List.getElem?_set_ne (by omega)]; exact W.cc
  · by_cases e : q.1 = p.1
    · have a := find_fst W.nx mq e
      have b := find_fst W.nx mp rfl
      have : q = p := Option.some.inj (a.symm.trans b)
      subst this
      rw [List.getElem?_set_self (W.lt mq), if_pos rfl]
    · have n : p.2 ≠ q.2 := fun z => by
        have hp := List.pairwise_map.mp W.ny
        have go : ∀ {l : List (Str × Nat)}, l.Pairwise (fun a b => a.2 ≠ b.2) → ∀ a ∈ l, ∀ b ∈ l, a.2 = b.2 → a = b := by
          intro l
          induction l with
          | nil => intro _ a m; simp at m
          | cons x l ih =>
            intro hp a ma b mb e
            rw [List.pairwise_cons] at hp
            rcases List.mem_cons.mp ma with e1 | m1
            · rcases List.mem_cons.mp mb with e2 | m2
              · rw [e1, e2]
              · exact absurd (by rw [← e1]; exact e) (hp.1 b m2)
            · rcases List.mem_cons.mp mb with e2 | m2
              · exact absurd (by rw [← e2]; exact e.symm) (hp.1 a m1)
              · exact ih hp.2 a m1 b m2 e
        exact e (by rw [go hp p mp q mq z])
      rw [List.getElem?_set_ne n, if_neg e]
      exact (W.inn q mq).2.1
  · rw [if_neg fun z => hx (by rw [z]; exact List.mem_map.mpr ⟨p, mp, rfl⟩)]
    exact W.off x hx
/-- a topic of which nothing was told -/
theorem Vw.new (W : Vw need rv sg vo cl st ix t) (mt : to ∈ T3) (nt : to ∉ ix.map Prod.fst) {j : Nat} (hj : 14 ≤ j) (hc : t[j]? = some (.dct [])) (hn : j ∉ ix.map Prod.snd) : Vw need rv sg vo cl st (ix ++ [(to, j)]) (t.set 4 (.dct (ixD (ix ++ [(to, j)])))) := by
  have w := W.wl
  have mem : ∀ q ∈ ix ++ [(to, j)], q ∈ ix ∨ q = (to, j) := fun q mq => (List.mem_append.mp mq).imp id List.mem_singleton.mp
  refine ⟨?_, ?_, ?_, ?_, ?_, ?_, fun q mq => ?_, ?_, ?_, fun x hx => W.off x fun z => hx (by rw [List.map_append]; exact List.mem_append_left _ z), by rw [List.length_set]; exact w⟩
  · rw [List.getElem?_set_ne (by omega)]; exact W.i
  · rw [List.getElem?_set_ne (by omega)]; exact W.hh
  · rw [List.getElem?_set_ne (by omega)]; exact W.ss
  · rw [List.getElem?_set_ne (by omega)]; exact W.gg
  · rw [List.getElem?_set_self (by omega)]
  · rw [List.getElem?_set_ne (by omega)]; exact W.cc
  · rcases mem q mq with mq | rfl
    · rw [List.getElem?_set_ne (by have := (W.inn q mq).1; omega)]
      exact W.inn q mq
    · rw [List.getElem?_set_ne (by omega)]
      refine ⟨hj, ?_, mt⟩
      show t[j]? = some (.dct ((vo to).map sgK))
      rw [W.off to nt, hc]
      rfl
  · rw [List.map_append, List.nodup_append]
    exact ⟨W.nx, by simp, fun a ma b mb z => nt (by have : b = to := by simpa using mb
                                                    rw [← this, ← z]; exact ma)⟩
  · rw [List.map_append, List.nodup_append]
    exact ⟨W.ny, by simp, fun a ma b mb z => hn (by have : b = j := by simpa using mb
                                                    rw [← this, ← z]; exact ma)⟩
theorem claim_v (hi : h[1]? = some (ifz need)) (h6 : h[6]? = some (.dct (clD cl))) (p : P (clO cl to) h) : Sat (Mi.m_Roster_claim_of [.ref 1, .str to] h) P := by
  unfold Mi.m_Roster_claim_of Mi.b_Roster_claim_of
  refine x_fun (s_ret' (x_met (x_fz hi rfl rfl ⟨isd_at h6, x_cons (x_var rfl (x_nil (v_dget1 h6 ?_)))⟩)))
  rw [val_cl]
  exact p
theorem has_voice_v (W : Vw need rv sg vo cl st ix t) (s : St t h) (p : P (.bl (getS (vo to) ho).isSome) (h ++ [.dct []])) : Sat (Mi.m_Roster_has_voice [.ref 1, .str to, .str ho] h) P := by
  unfold Mi.m_Roster_has_voice Mi.b_Roster_has_voice
  have W1 := W.app (.dct [])
  have s1 := s.app9 (.dct [])
  refine x_fun (s_ret' (x_bin (x_var rfl (x_met (x_fz (W.hi s) rfl rfl ⟨isd_at (W.h5 s), x_cons (x_var rfl (x_cons (x_dnew (x_nil (v_dget2 (W1.h5 s1) ?_)))))⟩)))))
  rcases W.find to with ⟨q, mq, e, ev⟩ | ⟨_, ev, en⟩
  · rw [ev]
    refine v_din (b := (getS (vo to) ho).isSome) ((s1.at9 q.2).trans (W1.inn q mq).2.1) (by rw [val_sg, Option.isSome_map, e]) p
  · rw [ev]
    have e8 : (h ++ [Cel.dct []])[h.length]? = some (.dct []) := by rw [List.getElem?_append_right (Nat.le_refl _), Nat.sub_self]; rfl
    refine v_din (b := (getS (vo to) ho).isSome) e8 (by rw [en]; rfl) p
theorem tell_again_v {r : Sg} (W : Vw need rv sg vo cl st ix t) (s : St t h) (mh : ho ∈ HS) (g : getS (vo to) ho = some r) (k1 : r.2.1 = c → P (.str "again") h) (k2 : r.2.1 ≠ c → P (.str "changed") (h.set 3 (.dct (stD (st ++ [ho]))))) : Sat (Mi.m_Roster__tell_again [.ref 1, .str to, .str ho, .str c] h) P := by
  unfold Mi.m_Roster__tell_again Mi.b_Roster__tell_again
  have hi := W.hi s
  rcases W.find to with ⟨q, mq, e, ev⟩ | ⟨_, ev, en⟩
  · refine x_fun (s_seq (s_if' (x_tst (x_bin (x_bin (x_bin (x_bin (x_fz hi rfl rfl (x_var rfl (v_dsub (W.h5 s) ev (x_var rfl (v_dsub (d := sgE r) ((s.at9 q.2).trans (W.inn q mq).2.1) (by rw [val_sg, e, g]; rfl) (x_c (x_some (d := .str r.2.1) rfl (x_var rfl (x_some (d := .bl (decide (r.2.1 = c))) rfl (x_oB ⟨fun e => ?_, fun e => ?_⟩)))))))))))))))))
    · exact s_ret' (x_c (k1 (of_decide_eq_true e)))
    · refine s_next ?_
      dsimp only
      refine s_seq (s_up (fun P p => x_fz hi rfl rfl p) (fun P p => x_var rfl p) (W.h3 s) (strike_val mh) (by rw [List.length_map]; decide) ?_)
      rw [strike_put mh]
      dsimp only
      exact s_ret' (x_c (k2 (of_decide_eq_false e)))
  · rw [en] at g
    exact absurd g (by unfold getS; simp)
theorem supporters_v (B : Bd rv sg vo cl st) (W : Vw need rv sg vo cl st ix t) (s : St t h) {vs : List Sg} {q : Str × Nat} (mq : q ∈ ix) (e : q.1 = to) (k : ∀ ys, ys.length = ((vo to).filter fun v => decide (v.2.1 = c) && !decide (v.1 ∈ rv)).length → P (.lst ys) h) : Sat (Mi.m_Roster__supporters [.ref 1, .str to, .str c] h) P := by
  unfold Mi.m_Roster__supporters Mi.b_Roster__supporters
  have hi := W.hi s
  have q14 := (W.inn q mq).1
  have ev : valD (ixD ix) (.inr to) = some (.ref (q.2 + 1)) := by rw [val_ix, find_fst W.nx mq e]; rfl
  have hj : h[q.2 + 1]? = some (.dct ((vo to).map sgK)) := by rw [← e]; exact (s.at9 q.2).trans (W.inn q mq).2.1
  have nd := (B.vb to).1
  have vl := B.vl to
  refine x_fun (s_seq (s_asg' (x_bin (x_fz hi rfl rfl (x_var rfl (v_dsub (W.h5 s) ev ?_))))))
  dsimp only
  refine s_ret' (x_lokE9 (j := q.2 + 1) rfl hj ?_)
  have hl : (h.set (q.2 + 1) (.lok ((vo to).map sgK)))[q.2 + 1]? = some (.lok ((vo to).map sgK)) := List.getElem?_set_self (List.getElem?_eq_some_iff.mp hj).1
  have hi' : (h.set (q.2 + 1) (.lok ((vo to).map sgK)))[1]? = some (ifz need) := by rw [List.getElem?_set_ne (by omega)]; exact hi
  have h2' : (h.set (q.2 + 1) (.lok ((vo to).map sgK)))[2]? = some (.dct (hrD rv)) := by rw [List.getElem?_set_ne (by omega)]; exact W.h2 s
  have back := back9 hj (.lok ((vo to).map sgK))
  generalize h.set (q.2 + 1) (.lok ((vo to).map sgK)) = hh at *
  have sk : ((vo to).map sgK).map (fun kv => keyV kv.1) = (vo to).map fun v => D.str v.1 := by rw [List.map_map]; rfl
  refine x_compFM (((vo to).map sgK).map fun kv => keyV kv.1) (fun d => match d with
    | .str x => match getS (vo to) x with
      | some r => decide (r.2.1 = c) && !decide (x ∈ rv)
      | none => false
    | _ => false) (fun d => d) (by rw [List.length_map, List.length_map]; exact sl_le (by omega)) (x_IK9 rfl hl) (fun d md => ?_) ?_
  · rw [sk] at md
    obtain ⟨v, mv, rfl⟩ := List.mem_map.mp md
    have gv := getS_at nd mv
    refine ⟨_, rfl, x_andT (x_tst (x_bin (x_bin (x_bin (x_var rfl (x_var rfl (v_dsubL (d := sgE v) hl (by rw [val_sg, gv]; rfl) (x_c (x_some (d := .str v.2.1) rfl (x_var rfl (x_some (d := .bl (decide (v.2.1 = c))) rfl (x_oB ⟨fun e => ?_, fun e => ?_⟩))))))))))))⟩
    · refine x_notT (x_tst (x_meth (x_var rfl ⟨isI_at hi' rfl, x_cons (x_var rfl (x_nil (revoked_v hi' h2' B.R.rs (x_oB ⟨rfl, ?_, fun _ => x_var rfl ⟨rfl, rfl⟩⟩))))⟩)))
      show (!decide (v.1 ∈ rv)) = (match getS (vo to) v.1 with
        | some r => decide (r.2.1 = c) && !decide (v.1 ∈ rv)
        | none => false)
      rw [gv]
      simp only []
      rw [e, Bool.true_and]
    · refine ⟨rfl, ?_, fun z => nomatch z⟩
      show false = (match getS (vo to) v.1 with
        | some r => decide (r.2.1 = c) && !decide (v.1 ∈ rv)
        | none => false)
      rw [gv]
      simp only []
      rw [e, Bool.false_and]
  · refine ⟨hl, ?_⟩
    rw [back]
    refine k _ ?_
    rw [List.length_map, sk, List.filter_map, List.length_map]
    congr 1
    refine List.filter_congr fun v mv => ?_
    show (match getS (vo to) v.1 with
      | some r => decide (r.2.1 = c) && !decide (v.1 ∈ rv)
      | none => false) = _
    rw [getS_at nd mv]
end
end Vi

set_option Elab.async false
set_option linter.all false
set_option autoImplicit false
set_option maxRecDepth 100000
set_option maxHeartbeats 2000000
namespace Vi
open PySem PySem.Spec PyProof.Rows L2
open scoped Classical
/-! ### steps of walked dicts, of o.f += n -/
section
variable {env : Env} {h : Hap} {Q : Ps}
theorem x_lokG {g : Env → Hap → Option Nat} {j : Nat} {m : ME} {kds : List (Key × D)} {P : D → Hap → Prop} (eg : g env h = some j) (hj : h[j]? = some (.dct kds)) (s : Sat (m env (h.set j (.lok kds))) fun d h2 => h2[j]? = some (.lok kds) ∧ P d (h2.set j (.dct kds))) : Sat (mLokG g m env h) P := by
  unfold mLokG
  rw [eg]
  simp only []
  rw [hj]
  simp only []
  revert s
  cases m env (h.set j (.lok kds)) with
  | ok d h2 =>
    intro s
    have s : h2[j]? = some (.lok kds) ∧ P d (h2.set j (.dct kds)) := s
    simp only []
    rw [if_pos s.1]
    exact s.2
  | err => exact fun s => s.elim
  | stuck => exact fun s => s.elim
theorem x_IW {f : Key × D → D} {o : ME} {j : Nat} {kds : List (Key × D)} (so : Sat (o env h) fun d h1 => d = .ref j ∧ h1 = h) (hj : h[j]? = some (.lok kds)) : Sat (mIW f o env h) fun s h1 => h1 = h ∧ s.1 = kds.map f ∧ s.2 h := Sat.bind (so.mono fun d h1 z => by
  obtain ⟨rfl, rfl⟩ := z
  simp only []
  rw [hj]
  exact ⟨rfl, rfl, hj⟩)
theorem s_augF' {c f : Str} {g : D → D → Hap → Option D} {o a : ME} (s : Sat (o env h) fun od h1 => ∃ i v, od = .ref i ∧ fldD c f od h1 = some v ∧ Sat (a env h1) fun d h2 => ∃ fs z, h2[i]? = some (.ins c fs) ∧ fs.length < 1000 ∧ g v d h2 = some z ∧ Q.n env (h2.set i (.ins c (putFD f z fs)))) : SatS (mAugF c f g o a env h) Q := SatS.of (s.mono fun od h1 ⟨i, v, e1, e2, s⟩ => by
  subst e1
  rw [e2]
  refine SatS.of (s.mono fun d h2 ⟨fs, z, e3, e4, e5, p⟩ => ?_)
  simp only []
  rw [e3, e5]
  show SatS (if c = c ∧ fs.length < 1000 then _ else _) _
  rw [if_pos ⟨rfl, e4⟩]
  exact p)
theorem putD_ln (acc : List (Key × D)) (k : Key) (v : D) : (putD acc k v).length ≤ acc.length + 1 := by
  unfold putD
  split
  · rw [List.length_map]; omega
  · rw [List.length_append, List.length_singleton]; omega
/-- a comprehension of a dict that leaves items out -/
theorem x_dcompFM {s : MI} {vs : List Nat} {g : MG} {c : MT} {k e : ME} {P : D → Hap → Prop} (xs : List D) (pf : D → Bool) (kf : D → Key) (f : D → D) (hsz : xs.length ≤ sizeLine) (hs : Sat (s env h) fun s h1 => h1 = h ∧ s.1 = xs ∧ s.2 h)
    (he : ∀ x ∈ xs, ∃ e1, g x (wipeE env vs) h = some e1 ∧ Sat (c e1 h) fun t h1 => h1 = h ∧ t = pf x ∧ (t = true → Sat (k e1 h) fun kd h2 => h2 = h ∧ keyD kd = some (kf x) ∧ Sat (e e1 h) fun d h3 => h3 = h ∧ d = f x))
    (p : P (.ref h.length) (h ++ [.dct ((xs.filter pf).foldl (fun acc x => putD acc (kf x) (f x)) [])])) : Sat (mDComp s vs g c k e env h) P := Sat.bind (hs.mono fun s h1 z => by
  obtain ⟨xs', gd⟩ := s
  obtain ⟨rfl, rfl, hg⟩ := z
  refine Sat.bindN ?_
  have go : ∀ (post : List D) (acc : List (Key × D)), (∀ x ∈ post, x ∈ xs') → acc.length + post.length ≤ sizeLine → Sat (dcL gd vs g c k e env post h1 acc) fun ys h2 => ys = (post.filter pf).foldl (fun acc x => putD acc (kf x) (f x)) acc ∧ h2 = h1 := by
    intro post
    induction post with
    | nil =>
      intro acc _ _
      unfold dcL
      rw [if_pos hg]
      exact ⟨rfl, rfl⟩
    | cons x post ih =>
      intro acc hm hl
      unfold dcL
      rw [if_pos hg]
      rw [List.length_cons] at hl
      obtain ⟨e1, q1, q2⟩ := he x (hm x List.mem_cons_self)
      rw [q1]
      refine Sat.bindN (q2.mono fun t h2 z => ?_)
      obtain ⟨rfl, rfl, z⟩ := z
      cases hp : pf x with
      | false =>
        rw [if_neg (by decide), List.filter_cons, hp, if_neg (by decide)]
        exact ih acc (fun y m => hm y (List.mem_cons_of_mem _ m)) (by omega)
      | true =>
        rw [if_pos rfl, List.filter_cons, hp, if_pos rfl]
        refine Sat.bindN ((z hp).mono fun kd h2 z => ?_)
        obtain ⟨rfl, ek, z⟩ := z
        refine Sat.bindN (z.mono fun d h3 z => ?_)
        obtain ⟨rfl, rfl⟩ := z
        rw [ek]
        simp only []
        rw [if_pos (by omega)]
        exact ih _ (fun y m => hm y (List.mem_cons_of_mem _ m)) (by have := putD_ln acc (kf x) (f x); omega)
  refine (go xs' [] (fun _ m => m) (by simpa using hsz)).mono fun ys h2 z => ?_
  obtain ⟨rfl, rfl⟩ := z
  exact p)
end
end Vi

set_option Elab.async false
set_option linter.all false
set_option autoImplicit false
set_option maxRecDepth 100000
set_option maxHeartbeats 2000000
namespace Vi
open PySem PySem.Spec PyProof.Rows L2
open scoped Classical
local macro_rules | `(tactic| walk_at "x1") => `(tactic| with_reducible first
  | refine x_bin ?_ | refine x_tst ?_ | refine x_oB ?_ | refine x_c ?_ | refine s_seqA ?_ | refine s_seqU ?_ | refine s_seqE ?_ | refine s_seqN ?_ | refine s_seqD ?_ | refine s_seqF ?_ | refine s_seqL ?_ | refine s_asg' ?_ | refine s_if' ?_ | refine s_ret' ?_ | refine s_exp' ?_ | refine s_next ?_ | refine s_retN' ?_ | refine s_sub' ?_ | refine s_dsub' ?_ | refine s_setF' ?_ | refine s_ddel' ?_
  | refine x_cb ?_ | refine x_cons ?_ | refine x_nil ?_ | refine x_call ?_ | refine x_met ?_ | refine x_meth ?_ | refine x_make ?_ | refine x_fld ?_ | refine x_un ?_ | refine x_notT ?_ | refine x_andT ?_ | refine x_orT ?_ | refine x_and ?_ | refine x_or ?_ | refine x_not ?_ | refine x_if ?_
  | refine x_tup ?_ | refine x_lst ?_ | refine x_cel ?_ | refine x_dnew ?_ | refine x_sortIt ?_ | refine x_sl ?_ | refine x_noP ?_ | refine x_part ?_ | refine x_oI ?_ | refine x_mI ?_ | refine x_rng ?_ | refine x_yes ?_ | refine x_chn ?_ | refine x_fun ?_ | refine x_ok ?_)
local macro_rules | `(tactic| walk_at "x2") => `(tactic| first
  | ((with_reducible refine y_var ?_); refine ⟨_, rfl, ?_⟩)
  | ((with_reducible refine y_some ?_); refine ⟨_, rfl, ?_⟩)
  | ((with_reducible refine y_gP ?_); refine ⟨_, rfl, ?_⟩))
local macro_rules | `(tactic| walk_at "x") => `(tactic| repeat (first | walk_at "x1" | walk_at "x2" ))
local macro_rules | `(tactic| walk_at "nx") => `(tactic| (refine next_k (by assumption) (by assumption) (by first | decide | omega) (by first | decide | omega) ?_))
theorem x_IWf {f : Key × D → D} {o : ME} {j : Nat} {kds : List (Key × D)} {env : Env} {h : Hap} (so : Sat (o env h) fun d h1 => d = .ref j ∧ h1 = h) (hj : h[j]? = some (.lok kds)) : Sat (mIW f o env h) fun s h1 => h1 = h ∧ s.1 = kds.map f ∧ ∀ h' : Hap, h'[j]? = some (.lok kds) → s.2 h' := Sat.bind (so.mono fun d h1 z => by
  obtain ⟨rfl, rfl⟩ := z
  simp only []
  rw [hj]
  exact ⟨rfl, rfl, fun _ z => z⟩)
section
variable {need : Int} {rv : List Str} {sg : List Qd} {vo : Str → List Sg} {cl : List (Str × Str)} {st : List Str} {ix : List (Str × Nat)} {t t' h : Hap} {P : D → Hap → Prop} {E : EX} {to ho c m : Str} {env : Env} {Q : Ps}
theorem settle_v (B : Bd rv sg vo cl st) (W : Vw need rv sg vo cl st ix t) (s : St t h) {q : Str × Nat} (mq : q ∈ ix) (e : q.1 = to) (nc : clF cl to = none)
    (k : P .non ((h.set 6 (.dct (clD (cl ++ [(to, c)])))).set 3 (.dct (stD (st ++ ((vo to).filter fun v => decide (v.2.1 ≠ c)).map Prod.fst))))) : Sat (Mi.m_Roster__settle [.ref 1, .str to, .str c] h) P := by
  unfold Mi.m_Roster__settle Mi.b_Roster__settle
  have q14 := (W.inn q mq).1
  have vb := B.vb to
  have vl := B.vl to
  refine x_fun (s_seq (s_dsub' (x_var rfl (x_fz (W.hi s) rfl rfl (x_var rfl ⟨_, sdix_at (W.h6 s) (by rw [List.length_map]; have := B.cll; omega), ?_⟩)))))
  rw [put_rows (f := D.str) (fun p mp => by simpa using List.find?_eq_none.mp nc p mp)]
  have e3 : (cl.map fun p => ((.inr p.1 : Key), D.str p.2)) ++ [((.inr to : Key), D.str c)] = clD (cl ++ [(to, c)]) := by unfold clD; rw [List.map_append]; rfl
  rw [e3]
  have W1 := W.settle (cl ++ [(to, c)])
  have s1 := s.set9 5 (.dct (clD (cl ++ [(to, c)])))
  clear W s e3
  generalize t.set 5 (.dct (clD (cl ++ [(to, c)]))) = t1 at *
  have s1 : St t1 (h.set 6 (.dct (clD (cl ++ [(to, c)])))) := s1
  generalize h.set 6 (.dct (clD (cl ++ [(to, c)]))) = h1 at *
  have ev : valD (ixD ix) (.inr to) = some (.ref (q.2 + 1)) := by rw [val_ix, find_fst W1.nx mq e]; rfl
  have hj : h1[q.2 + 1]? = some (.dct ((vo to).map sgK)) := by rw [← e]; exact (s1.at9 q.2).trans (W1.inn q mq).2.1
  dsimp only
  refine s_seq (s_asg' (x_bin (x_fz (W1.hi s1) rfl rfl (x_var rfl (v_dsub (W1.h5 s1) ev ?_)))))
  dsimp only
  refine s_lokS9 (j := q.2 + 1) rfl hj ?_
  have hl : (h1.set (q.2 + 1) (.lok ((vo to).map sgK)))[q.2 + 1]? = some (.lok ((vo to).map sgK)) := List.getElem?_set_self (List.getElem?_eq_some_iff.mp hj).1
  have hi' : (h1.set (q.2 + 1) (.lok ((vo to).map sgK)))[1]? = some (ifz need) := by rw [List.getElem?_set_ne (by omega)]; exact W1.hi s1
  have h3' : (h1.set (q.2 + 1) (.lok ((vo to).map sgK)))[3]? = some (.dct (stD st)) := by rw [List.getElem?_set_ne (by omega)]; exact W1.h3 s1
  have back : ∀ x : Cel, ((h1.set (q.2 + 1) (.lok ((vo to).map sgK))).set 3 x).set (q.2 + 1) (.dct ((vo to).map sgK)) = h1.set 3 x := fun x => by
    rw [List.set_comm _ _ (by omega), back9 hj]
  generalize h1.set (q.2 + 1) (.lok ((vo to).map sgK)) = hh at *
  have sk : ((vo to).map sgK).map (fun kv => keyV kv.1) = (vo to).map fun v => D.str v.1 := by rw [List.map_map]; rfl
  refine s_forI (fun pre post e h' => ∃ (pv pq : List Sg) (a : Option D), vo to = pv ++ pq ∧ pre = pv.map (fun v => D.str v.1) ∧ e = [some (.ref 1), some (.str to), some (.str c), some (.ref (q.2 + 1)), a] ∧ h' = hh.set 3 (.dct (stD (st ++ (pv.filter fun v => decide (v.2.1 ≠ c)).map Prod.fst)))) ?_
  refine Sat.mono (x_IWf (x_var rfl ⟨rfl, rfl⟩) hl) fun s1 h4 z => ?_
  obtain ⟨rfl, e1, gd⟩ := z
  rw [sk] at e1
  have lt3 : 3 < h4.length := (List.getElem?_eq_some_iff.mp h3').1
  refine ⟨⟨[], vo to, _, rfl, rfl, rfl, ?_⟩, ?_, ?_, ?_⟩
  · rw [List.filter_nil, List.map_nil, List.append_nil, set_id9 h3']
  · rintro pre post e h' _ ⟨pv, pq, a, _, _, _, rfl⟩
    exact gd _ (by rw [List.getElem?_set_ne (by omega)]; exact hl)
  · rintro pre x post e h' hx ⟨pv, pq, a, e2, rfl, rfl, rfl⟩
    rw [e1, e2] at hx
    obtain ⟨v, pq', rfl, rfl⟩ : ∃ v pq', pq = v :: pq' ∧ x = .str v.1 := by
      rw [List.map_append] at hx
      have hx := List.append_cancel_left hx
      cases pq with
      | nil => simp at hx
      | cons v pq' => exact ⟨v, pq', rfl, (List.cons.inj hx).1.symm⟩
    have mv : v ∈ vo to := by rw [e2]; simp
    have gv := getS_at vb.1 mv
    have vh := (vb.2 v mv).1
    refine ⟨_, rfl, ?_⟩
    have ea : pv.map (fun v => D.str v.1) ++ [D.str v.1] = (pv ++ [v]).map fun v => D.str v.1 := by rw [List.map_append]; rfl
    rw [ea]
    generalize es : st ++ (pv.filter fun v => decide (v.2.1 ≠ c)).map Prod.fst = sp
    have hl5 : (h4.set 3 (.dct (stD sp)))[q.2 + 1]? = some (.lok ((vo to).map sgK)) := by rw [List.getElem?_set_ne (by omega)]; exact hl
    have hi5 : (h4.set 3 (.dct (stD sp)))[1]? = some (ifz need) := by rw [List.getElem?_set_ne (by omega)]; exact hi'
    have h35 : (h4.set 3 (.dct (stD sp)))[3]? = some (.dct (stD sp)) := List.getElem?_set_self lt3
    refine s_if' (x_tst (x_bin (x_bin (x_bin (x_var rfl (x_var rfl (v_dsubL (d := sgE v) hl5 (by rw [val_sg, gv]; rfl) (x_c (x_some (d := .str v.2.1) rfl (x_var rfl (x_some (d := .bl (!decide (v.2.1 = c))) rfl (x_oB ⟨fun e => ?_, fun e => ?_⟩))))))))))))
    · have e : ¬ v.2.1 = c := by simpa using e
      refine s_up (fun P p => x_fz hi5 rfl rfl p) (fun P p => x_var rfl p) h35 (strike_val vh) (by rw [List.length_map]; decide) ?_
      rw [strike_put vh, List.set_set]
      refine ⟨pv ++ [v], pq', _, by rw [e2]; simp, rfl, rfl, ?_⟩
      rw [List.filter_append, List.filter_cons_of_pos (by simpa using e), List.filter_nil, List.map_append, ← List.append_assoc, es]
      rfl
    · have e : v.2.1 = c := by simpa using e
      refine s_next ⟨pv ++ [v], pq', _, by rw [e2]; simp, rfl, rfl, ?_⟩
      rw [List.filter_append, List.filter_cons_of_neg (by simpa using e), List.filter_nil, List.append_nil, es]
  · rintro e h' ⟨pv, pq, a, e2, e3, rfl, rfl⟩
    rw [e1] at e3
    have pl : pq = [] := by
      have := congrArg List.length e3
      rw [List.length_map, List.length_map, e2, List.length_append] at this
      exact List.eq_nil_of_length_eq_zero (by omega)
    subst pl
    rw [List.append_nil] at e2
    subst e2
    refine ⟨by rw [List.getElem?_set_ne (by omega)]; exact hl, ?_⟩
    rw [back]
    exact k
end
end Vi

set_option Elab.async false
set_option linter.all false
set_option autoImplicit false
set_option maxRecDepth 100000
set_option maxHeartbeats 2000000
namespace Vi
open PySem PySem.Spec PyProof.Rows L2
open scoped Classical
local macro_rules | `(tactic| walk_at "x1") => `(tactic| with_reducible first
  | refine x_bin ?_ | refine x_tst ?_ | refine x_oB ?_ | refine x_c ?_ | refine s_seqA ?_ | refine s_seqU ?_ | refine s_seqE ?_ | refine s_seqN ?_ | refine s_seqD ?_ | refine s_seqF ?_ | refine s_seqL ?_ | refine s_asg' ?_ | refine s_if' ?_ | refine s_ret' ?_ | refine s_exp' ?_ | refine s_next ?_ | refine s_retN' ?_ | refine s_sub' ?_ | refine s_dsub' ?_ | refine s_setF' ?_ | refine s_ddel' ?_
  | refine x_cb ?_ | refine x_cons ?_ | refine x_nil ?_ | refine x_call ?_ | refine x_met ?_ | refine x_meth ?_ | refine x_make ?_ | refine x_fld ?_ | refine x_un ?_ | refine x_notT ?_ | refine x_andT ?_ | refine x_orT ?_ | refine x_and ?_ | refine x_or ?_ | refine x_not ?_ | refine x_if ?_
  | refine x_tup ?_ | refine x_lst ?_ | refine x_cel ?_ | refine x_dnew ?_ | refine x_sortIt ?_ | refine x_sl ?_ | refine x_noP ?_ | refine x_part ?_ | refine x_oI ?_ | refine x_mI ?_ | refine x_rng ?_ | refine x_yes ?_ | refine x_chn ?_ | refine x_fun ?_ | refine x_ok ?_)
local macro_rules | `(tactic| walk_at "x2") => `(tactic| first
  | ((with_reducible refine y_var ?_); refine ⟨_, rfl, ?_⟩)
  | ((with_reducible refine y_some ?_); refine ⟨_, rfl, ?_⟩)
  | ((with_reducible refine y_gP ?_); refine ⟨_, rfl, ?_⟩))
local macro_rules | `(tactic| walk_at "x") => `(tactic| repeat (first | walk_at "x1" | walk_at "x2" ))
local macro_rules | `(tactic| walk_at "nx") => `(tactic| (refine next_k (by assumption) (by assumption) (by first | decide | omega) (by first | decide | omega) ?_))
section
variable {need : Int} {rv : List Str} {sg : List Qd} {vo : Str → List Sg} {cl : List (Str × Str)} {st : List Str} {ix : List (Str × Nat)} {t t' h : Hap} {P : D → Hap → Prop} {E : EX} {to ho c m : Str} {env : Env} {Q : Ps}
theorem getS_none (n : getS (vo to) ho = none) : ∀ r ∈ vo to, r.1 ≠ ho := fun r mr e => List.find?_eq_none.mp n r mr (decide_eq_true e)
theorem Bd.say (B : Bd rv sg vo cl st) (n : getS (vo to) ho = none) (mh : ho ∈ HS) (mc : c ∈ C3) (om : okS m) : Bd rv sg (fun x => if x = to then vo to ++ [(ho, c, m)] else vo x) cl st := by
  refine ⟨B.R, B.sq, fun x => ?_, B.cn, fun p mp => ⟨(B.cb p mp).1, (B.cb p mp).2.1, ?_⟩, B.sb⟩
  · by_cases e : x = to
    · rw [if_pos e]
      refine ⟨?_, fun v mv => ?_⟩
      · rw [List.map_append, List.nodup_append]
        refine ⟨(B.vb to).1, by simp, fun a ma b mb z => ?_⟩
        obtain ⟨v, mv, rfl⟩ := List.mem_map.mp ma
        have : b = ho := by simpa using mb
        exact getS_none n v mv (z.trans this)
      · rcases List.mem_append.mp mv with mv | mv
        · exact (B.vb to).2 v mv
        · rw [List.mem_singleton.mp mv]
          exact ⟨mh, mc, om⟩
    · rw [if_neg e]
      exact B.vb x
  · by_cases e : p.1 = to
    · rw [if_pos e]; simp
    · rw [if_neg e]
      exact (B.cb p mp).2.2
theorem qs_iff (B : Bd rv sg vo cl st) (mt : to ∈ T3) (mc : c ∈ C3) : ((m, ho, wd to c) ∈ sg.map qs ↔ (m, ho, to, c) ∈ sg) := by
  constructor
  · intro z
    obtain ⟨⟨m', h', t', c'⟩, mq, e⟩ := List.mem_map.mp z
    have q := B.sq _ mq
    unfold qs at e
    simp only [Prod.mk.injEq] at e
    obtain ⟨rfl, rfl, e⟩ := e
    obtain ⟨rfl, rfl⟩ := wd_inj t' q.1 c' q.2 to mt c mc e
    exact mq
  · exact fun z => List.mem_map.mpr ⟨_, z, rfl⟩
theorem okS_T {t : Str} (m : t ∈ T3) : okS t ∧ t.length ≤ 30 := ⟨asc_ok (asc_all (t3_ok t m).2), by have := (t3_ok t m).1; omega⟩
theorem okS_C {t : Str} (m : t ∈ C3) : okS t ∧ t.length ≤ 30 := ⟨asc_ok (asc_all (c3_ok t m).2), by have := (c3_ok t m).1; omega⟩
theorem okS_H {t : Str} (m : t ∈ HS) : okS t ∧ t.length ≤ 30 := ⟨asc_ok (asc_all (hs_ok t m).2), by have := (hs_ok t m).1; omega⟩
theorem okS_W (mt : to ∈ T3) (mc : c ∈ C3) : okS (wd to c) ∧ (wd to c).length ≤ 30 := ⟨asc_ok (asc_all (wd_ok to mt c mc).2), (wd_ok to mt c mc).1⟩
theorem counts_q (B : Bd rv sg vo cl st) (W : Vw need rv sg vo cl st ix t) (s : St t h) (mt : to ∈ T3) (mh : ho ∈ HS) (mc : c ∈ C3) (e0 : env[0]? = some (some (.ref 1))) (e1 : env[1]? = some (some (.str to))) (e2 : env[2]? = some (some (.str ho))) (e3 : env[3]? = some (some (.str c))) (e4 : env[4]? = some (some (.str m)))
    (p : P (.bl (decide ((m, ho, to, c) ∈ sg) && !decide (ho ∈ rv))) h) : Sat (mMeth "Roster" "counts" Mi.m_Roster_counts (mVar 0) (mCons (mVar 4) (mCons (mVar 2) (mCons (mCall Mi.m_words_of (mCons (mVar 1) (mCons (mVar 3) mNil))) mNil))) env h) P := by
  refine x_meth (x_var e0 ⟨isI_at (W.hi s) rfl, x_cons (x_var e4 (x_cons (x_var e2 (x_cons (x_call (x_cons (x_var e1 (x_cons (x_var e3 (x_nil (words_of_k (okS_T mt).2 (okS_C mc).2 (x_nil ?_))))))))))))⟩)
  refine counts_v (tx := wd to c) (W.hi s) (W.h2 s) (W.h4 s) B.R (okS_H mh).1 (okS_W mt mc).1 ?_
  rw [decide_eq_decide.mpr (qs_iff B mt mc)]
  exact p
theorem tell_bad (B : Bd rv sg vo cl st) (W : Vw need rv sg vo cl st ix t) (s : St t h) (mt : to ∈ T3) (mh : ho ∈ HS) (mc : c ∈ C3) (n : (decide ((m, ho, to, c) ∈ sg) && !decide (ho ∈ rv)) = false) (p : P (.str "bad") h) : Sat (Mi.m_Roster_tell [.ref 1, .str to, .str ho, .str c, .str m] h) P := by
  unfold Mi.m_Roster_tell Mi.b_Roster_tell
  refine x_fun (s_seq (s_if' (x_notT (x_tst (counts_q (to := to) (ho := ho) (c := c) (m := m) B W s mt mh mc rfl rfl rfl rfl rfl ?_)))))
  rw [n]
  exact x_oB ⟨fun _ => s_ret' (x_c p), fun z => nomatch z⟩
theorem setd_v (W : Vw need rv sg vo cl st ix t) (s : St t h) (mt : to ∈ T3) (k : ∀ q ix' t' h', q ∈ ix' → q.1 = to → St t' h' → Vw need rv sg vo cl st ix' t' → Fr t t' → P (.ref (q.2 + 1)) h') : Sat (gSetd (.ref 5) [.str to, .ref h.length] (h ++ [.dct []])) P := by
  have W1 := W.app (.dct [])
  have s1 := s.app9 (.dct [])
  have g5 := W1.h5 s1
  have wl := W.wl
  have kd : keyD (.str to) = some (.inr to) := rfl
  unfold gSetd
  simp only [kd]
  rw [g5]
  simp only []
  rw [if_pos (show (ixD ix).length < sizeLine by rw [List.length_map, sizeLine_eq]; have := W.ixl; omega)]
  rcases W.find to with ⟨q, mq, e, ev⟩ | ⟨nt, ev, en⟩
  · rw [ev]
    exact k q ix _ _ mq e s1 W1 (Fr.app wl)
  · rw [ev]
    simp only []
    rw [s.len9]
    have e1 : putD (ixD ix) (.inr to) (.ref (t.length + 1)) = ixD (ix ++ [(to, t.length)]) := by
      unfold ixD
      rw [put_rows (f := fun n => D.ref (n + 1)) (fun p mp z => nt (List.mem_map.mpr ⟨p, mp, z⟩)), List.map_append]
      rfl
    rw [e1]
    refine k (to, t.length) (ix ++ [(to, t.length)]) _ _ (by simp) rfl (s1.set9 4 _) (W1.new mt nt wl ?_ ?_) ((Fr.app wl).trans (Fr.set (.inl (by decide))))
    · rw [List.getElem?_append_right (Nat.le_refl _), Nat.sub_self]; rfl
    · intro z
      obtain ⟨p, mp, e⟩ := List.mem_map.mp z
      have := W.lt mp
      omega
theorem tell_k (B : Bd rv sg vo cl st) (W : Vw need rv sg vo cl st ix t) (s : St t h) (mt : to ∈ T3) (mh : ho ∈ HS) (mc : c ∈ C3) (om : okS m) (hc : (decide ((m, ho, to, c) ∈ sg) && !decide (ho ∈ rv)) = true)
    (k : ∀ ix' t' h', St t' h' → Vw need rv sg (dueV need rv to ho c m vo cl st).2.1 (dueV need rv to ho c m vo cl st).2.2.1 (dueV need rv to ho c m vo cl st).2.2.2 ix' t' → Fr t t' → P (.str (dueV need rv to ho c m vo cl st).1) h') :
    Sat (Mi.m_Roster_tell [.ref 1, .str to, .str ho, .str c, .str m] h) P := by
  unfold Mi.m_Roster_tell Mi.b_Roster_tell
  refine x_fun (s_seq (s_if' (x_notT (x_tst (counts_q (to := to) (ho := ho) (c := c) (m := m) B W s mt mh mc rfl rfl rfl rfl rfl ?_)))))
  rw [hc]
  refine x_oB ⟨fun z => (nomatch z), fun _ => s_next ?_⟩
  dsimp only
  have W1 := W.app (.dct [])
  have s1 := s.app9 (.dct [])
  have F1 : Fr t (t ++ [.dct []]) := Fr.app W.wl
  refine s_seq (s_if' (x_tst (x_meth (x_var rfl ⟨isI_at (W.hi s) rfl, x_cons (x_var rfl (x_cons (x_var rfl (x_nil (has_voice_v W s (x_oB ⟨fun e => ?_, fun e => ?_⟩))))))⟩))))
  · obtain ⟨r, g⟩ := Option.isSome_iff_exists.mp e
    refine s_ret' (x_meth (x_var rfl ⟨isI_at (W1.hi s1) rfl, x_cons (x_var rfl (x_cons (x_var rfl (x_cons (x_var rfl (x_nil (tell_again_v W1 s1 mh g (fun e => ?_) fun e => ?_)))))))⟩))
    · have kk : dueV need rv to ho c m vo cl st = (("again" : Str), vo, cl, st) := by unfold dueV; rw [g]; simp only []; rw [if_pos e]
      rw [kk] at k
      exact k ix _ _ s1 W1 F1
    · have kk : dueV need rv to ho c m vo cl st = (("changed" : Str), vo, cl, st ++ [ho]) := by unfold dueV; rw [g]; simp only []; rw [if_neg e]
      rw [kk] at k
      exact k ix _ _ (s1.set9 2 _) (W1.strike _) (F1.trans (Fr.set (.inl (by decide))))
  have gn : getS (vo to) ho = none := by simpa using e
  refine s_next ?_
  dsimp only
  refine s_seq (s_asg' (x_meth (x_var rfl ⟨isI_at (W1.hi s1) rfl, x_cons (x_var rfl (x_nil (claim_v (W1.hi s1) (W1.h6 s1) ?_)))⟩)))
  generalize ed : clO cl to = d
  dsimp only
  refine s_seq (s_asg' (x_met (x_fz (W1.hi s1) rfl rfl ⟨isd_at (W1.h5 s1), x_cons (x_var rfl (x_cons (x_dnew (x_nil (setd_v W1 s1 mt fun q ix' t2 h2 mq e s2 W2 F2 => ?_)))))⟩)))
  have F2 := F1.trans F2
  clear s1 W1 F1 s W
  dsimp only
  refine s_seq (s_dsub' (x_tup (x_cons (x_var rfl (x_cons (x_var rfl (x_nil ⟨sl_le (show 2 ≤ 16777216 by decide), x_var rfl (x_var rfl ⟨_, sdix_at ((s2.at9 q.2).trans (W2.inn q mq).2.1) (by rw [List.length_map]; have := B.vl q.1; omega), ?_⟩)⟩)))))))
  rw [e, put_sg (getS_none gn)]
  have e1 : (vo to).map sgK ++ [((.inr ho : Key), D.tup [.str c, .str m])] = (vo to ++ [(ho, c, m)]).map sgK := by rw [List.map_append]; rfl
  rw [e1]
  have B3 := B.say gn mh mc om
  have W3 := W2.say mq (vo to ++ [(ho, c, m)])
  rw [e] at W3
  have s3 := s2.set9 q.2 (.dct ((vo to ++ [(ho, c, m)]).map sgK))
  have F3 : Fr t (t2.set q.2 (.dct ((vo to ++ [(ho, c, m)]).map sgK))) := F2.trans (Fr.set (.inr (W2.inn q mq).1))
  clear s2 W2 F2
  generalize t2.set q.2 (.dct ((vo to ++ [(ho, c, m)]).map sgK)) = t3 at *
  generalize h2.set (q.2 + 1) (.dct ((vo to ++ [(ho, c, m)]).map sgK)) = h3 at *
  dsimp only
  have k1 := k
  unfold dueV at k1
  rw [gn] at k1
  clear k
  cases ec : clF cl to with
  | some p =>
    have : d = .str p.2 := by rw [← ed]; unfold clO; rw [ec]; rfl
    subst this
    rw [ec] at k1
    simp only [] at k1
    refine s_seq (s_if' (x_andT (x_tst (x_bin (x_var rfl (x_c (x_some (d := .bl true) rfl (x_oB ⟨fun _ => ?_, fun z => nomatch z⟩))))))))
    refine x_tst (x_bin (x_var rfl (x_var rfl (x_some (d := .bl (!decide (p.2 = c))) rfl (x_oB ⟨fun e => ?_, fun e => ?_⟩)))))
    · have e : ¬ p.2 = c := by simpa using e
      rw [if_neg e] at k1
      refine s_seq (s_up (fun P p => x_fz (W3.hi s3) rfl rfl p) (fun P p => x_var rfl p) (W3.h3 s3) (strike_val mh) (by rw [List.length_map]; decide) ?_)
      rw [strike_put mh]
      dsimp only
      refine s_ret' (x_c ?_)
      exact k1 ix' _ _ (s3.set9 2 _) (W3.strike _) (F3.trans (Fr.set (.inl (by decide))))
    · have e : p.2 = c := by simpa using e
      rw [if_pos e] at k1
      refine s_next ?_
      dsimp only
      refine s_seq (s_if' (x_tst (x_bin (x_var rfl (x_c (x_some (d := .bl true) rfl (x_oB ⟨fun _ => ?_, fun z => nomatch z⟩)))))))
      refine s_ret' (x_c ?_)
      exact k1 ix' _ _ s3 W3 F3
  | none =>
    have : d = .non := by rw [← ed]; unfold clO; rw [ec]; rfl
    subst this
    rw [ec] at k1
    simp only [] at k1
    refine s_seq (s_if' (x_andT (x_tst (x_bin (x_var rfl (x_c (x_some (d := .bl false) rfl (x_oB ⟨fun z => (nomatch z), fun _ => ⟨fun z => (nomatch z), fun _ => s_next ?_⟩⟩))))))))
    dsimp only
    refine s_seq (s_if' (x_tst (x_bin (x_var rfl (x_c (x_some (d := .bl false) rfl (x_oB ⟨fun z => (nomatch z), fun _ => s_next ?_⟩)))))))
    dsimp only
    refine s_seq (s_if' (x_tst (x_bin (x_cb (x_cons (x_meth (x_var rfl ⟨isI_at (W3.hi s3) rfl, x_cons (x_var rfl (x_cons (x_var rfl (x_nil (supporters_v (vs := []) B3 W3 s3 mq e fun ys hys => x_nil (v_lenQ (by rfl) (fun z => by simp) ?_))))))⟩)))))))
    rw [if_pos rfl] at hys
    refine x_fz (W3.hi s3) rfl rfl (x_some (d := .bl (decide ((ys.length : Int) < need))) rfl (x_oB ⟨fun e => ?_, fun e => ?_⟩))
    · have e := of_decide_eq_true e
      rw [hys] at e
      rw [if_pos e] at k1
      refine s_ret' (x_c ?_)
      exact k1 ix' _ _ s3 W3 F3
    · have e4 := of_decide_eq_false e
      rw [hys] at e4
      rw [if_neg e4] at k1
      refine s_next ?_
      dsimp only
      refine s_seq (s_exp' (x_meth (x_var rfl ⟨isI_at (W3.hi s3) rfl, x_cons (x_var rfl (x_cons (x_var rfl (x_nil (settle_v B3 W3 s3 mq ‹q.1 = to› ec ?_)))))⟩)))
      rw [if_pos rfl]
      dsimp only
      refine s_ret' (x_c ?_)
      exact k1 ix' _ _ ((s3.set9 5 _).set9 2 _) ((W3.settle _).strike _) ((F3.trans (Fr.set (.inl (by decide)))).trans (Fr.set (.inl (by decide))))
end
end Vi

set_option Elab.async false
set_option linter.all false
set_option autoImplicit false
set_option maxRecDepth 100000
set_option maxHeartbeats 2000000
namespace Vi
open PySem PySem.Spec PyProof.Rows L2
open scoped Classical
local macro_rules | `(tactic| walk_at "x1") => `(tactic| with_reducible first
  | refine x_bin ?_ | refine x_tst ?_ | refine x_oB ?_ | refine x_c ?_ | refine s_seqA ?_ | refine s_seqU ?_ | refine s_seqE ?_ | refine s_seqN ?_ | refine s_seqD ?_ | refine s_seqF ?_ | refine s_seqL ?_ | refine s_asg' ?_ | refine s_if' ?_ | refine s_ret' ?_ | refine s_exp' ?_ | refine s_next ?_ | refine s_retN' ?_ | refine s_sub' ?_ | refine s_dsub' ?_ | refine s_setF' ?_ | refine s_ddel' ?_
  | refine x_cb ?_ | refine x_cons ?_ | refine x_nil ?_ | refine x_call ?_ | refine x_met ?_ | refine x_meth ?_ | refine x_make ?_ | refine x_fld ?_ | refine x_un ?_ | refine x_notT ?_ | refine x_andT ?_ | refine x_orT ?_ | refine x_and ?_ | refine x_or ?_ | refine x_not ?_ | refine x_if ?_
  | refine x_tup ?_ | refine x_lst ?_ | refine x_cel ?_ | refine x_dnew ?_ | refine x_sortIt ?_ | refine x_sl ?_ | refine x_noP ?_ | refine x_part ?_ | refine x_oI ?_ | refine x_mI ?_ | refine x_rng ?_ | refine x_yes ?_ | refine x_chn ?_ | refine x_fun ?_ | refine x_ok ?_)
local macro_rules | `(tactic| walk_at "x2") => `(tactic| first
  | ((with_reducible refine y_var ?_); refine ⟨_, rfl, ?_⟩)
  | ((with_reducible refine y_some ?_); refine ⟨_, rfl, ?_⟩)
  | ((with_reducible refine y_gP ?_); refine ⟨_, rfl, ?_⟩))
local macro_rules | `(tactic| walk_at "x") => `(tactic| repeat (first | walk_at "x1" | walk_at "x2" ))
local macro_rules | `(tactic| walk_at "nx") => `(tactic| (refine next_k (by assumption) (by assumption) (by first | decide | omega) (by first | decide | omega) ?_))
section
variable {need : Int} {rv : List Str} {sg : List Qd} {vo : Str → List Sg} {cl : List (Str × Str)} {st : List Str} {ix : List (Str × Nat)} {t t' h : Hap} {P : D → Hap → Prop} {E : EX} {to ho c m x : Str} {env : Env} {Q : Ps}
theorem strikes_v (hi : h[1]? = some (ifz need)) (h2 : h[2]? = some (.dct (hrD rv))) (h3 : h[3]? = some (.dct (stD st))) (hx : x ∈ HS) (p : P (.int (st.count x : Nat)) h) : Sat (Mi.m_Roster_strikes [.ref 1, .str x] h) P := SatX.sat (by
  unfold Mi.m_Roster_strikes Mi.b_Roster_strikes
  have ev : (valD (hrD rv) (.inr x)).isSome = true := by
    unfold hrD
    rw [val_hs HS fun x => .bl (decide (x ∈ rv)), if_pos hx]
    rfl
  refine X.fn (X.seqX (X.ife (x_tst (x_bin (x_var rfl (x_fz hi rfl rfl (v_dnin (b := true) h2 ev (x_oB ⟨fun q => (nomatch q), fun _ => ?_⟩))))))))
  refine SatSX.of (s_next ?_)
  dsimp only
  exact SatSX.of (s_ret' (x_bin (x_fz hi rfl rfl (x_var rfl (v_dsub h3 (strike_val hx) p))))))
theorem strikes_no (hi : h[1]? = some (ifz need)) (h2 : h[2]? = some (.dct (hrD rv))) (hx : x ∉ HS) (p : E "RosterProblem" (rp "unknown") h) : SatX (Mi.m_Roster_strikes [.ref 1, .str x] h) P E := by
  unfold Mi.m_Roster_strikes Mi.b_Roster_strikes
  have ev : (valD (hrD rv) (.inr x)).isSome = false := by
    unfold hrD
    rw [val_hs HS fun x => .bl (decide (x ∈ rv)), if_neg hx]
    rfl
  refine X.fn (X.seqX (X.ife (x_tst (x_bin (x_var rfl (x_fz hi rfl rfl (v_dnin (b := false) h2 ev (x_oB ⟨fun _ => ?_, fun q => nomatch q⟩))))))))
  exact X.raise (x_cons (x_c (x_nil ⟨rfl, by decide, p⟩)))
/-- who vouched, with their marks -/
def vouD (vs : List Sg) (c : Str) : D := .tup ((vs.filter fun v => decide (v.2.1 = c)).map fun v => .tup [.str v.1, .str v.2.2])
def vouO (vo : Str → List Sg) (cl : List (Str × Str)) (to : Str) : D := match clF cl to with
  | some p => vouD (vo to) p.2
  | none => .tup []
theorem vouchers_v (B : Bd rv sg vo cl st) (W : Vw need rv sg vo cl st ix t) (s : St t h) (p : P (vouO vo cl to) h) : Sat (Mi.m_Roster_vouchers [.ref 1, .str to] h) P := by
  unfold Mi.m_Roster_vouchers Mi.b_Roster_vouchers
  have hi := W.hi s
  refine x_fun (s_seq (s_if' (x_tst (x_bin (x_var rfl (x_fz hi rfl rfl (v_dnin (b := (clF cl to).isSome) (W.h6 s) (by rw [val_cl, Option.isSome_map]) (x_oB ⟨fun e => ?_, fun e => ?_⟩))))))))
  · have ec : clF cl to = none := by simpa using e
    have : vouO vo cl to = .tup [] := by unfold vouO; rw [ec]
    rw [this] at p
    exact s_ret' (x_tup (x_nil ⟨sl_le (show 0 ≤ 16777216 by decide), p⟩))
  have ec : ∃ r, clF cl to = some r := Option.isSome_iff_exists.mp (by simpa using e)
  obtain ⟨r, ec⟩ := ec
  have ev0 : vouO vo cl to = vouD (vo to) r.2 := by unfold vouO; rw [ec]
  rw [ev0] at p
  have r1 : r.1 = to := of_decide_eq_true (List.find?_some (p := fun p : Str × Str => decide (p.1 = to)) ec)
  have rm := List.mem_of_find?_eq_some ec
  have ne : vo to ≠ [] := by rw [← r1]; exact (B.cb r rm).2.2
  have vl := B.vl to
  rcases W.find to with ⟨q, mq, eq, ev⟩ | ⟨_, _, en⟩
  · have q14 := (W.inn q mq).1
    have hj : h[q.2 + 1]? = some (.dct ((vo to).map sgK)) := by rw [← eq]; exact (s.at9 q.2).trans (W.inn q mq).2.1
    refine s_next ?_
    dsimp only
    refine s_seq (s_asg' (x_bin (x_fz hi rfl rfl (x_var rfl (v_dsub (d := .str r.2) (W.h6 s) (by rw [val_cl, ec]; rfl) ?_)))))
    dsimp only
    refine s_seq (s_asg' (x_bin (x_fz hi rfl rfl (x_var rfl (v_dsub (W.h5 s) ev ?_)))))
    dsimp only
    have hl : (h.set (q.2 + 1) (.lok ((vo to).map sgK)))[q.2 + 1]? = some (.lok ((vo to).map sgK)) := List.getElem?_set_self (List.getElem?_eq_some_iff.mp hj).1
    have back := back9 hj (.lok ((vo to).map sgK))
    have sk : ((vo to).map sgK).map itD = (vo to).map fun v => D.tup [.str v.1, sgE v] := by rw [List.map_map]; rfl
    refine s_ret' (x_cb (x_cons (x_lokG (j := q.2 + 1) rfl hj ?_)))
    refine x_compFM (((vo to).map sgK).map itD) (fun d => match d with
      | .tup [_, .tup [.str b, _]] => decide (b = r.2)
      | _ => false) (fun d => match d with
      | .tup [.str a, .tup [_, .str m]] => .tup [.str a, .str m]
      | d => d) (by rw [List.length_map, List.length_map]; exact sl_le (by omega)) (x_IW (x_var rfl ⟨rfl, rfl⟩) hl) (fun d md => ?_) ?_
    · rw [sk] at md
      obtain ⟨⟨vh, vc, vm⟩, mv, rfl⟩ := List.mem_map.mp md
      refine ⟨_, rfl, x_tst (x_bin (x_var rfl (x_var rfl (x_some (d := .bl (decide (vc = r.2))) rfl (x_oB ⟨rfl, rfl, fun _ => x_tup (x_cons (x_var rfl (x_cons (x_var rfl (x_nil ⟨sl_le (show 2 ≤ 16777216 by decide), rfl, rfl⟩)))))⟩)))))⟩
    · refine ⟨hl, ?_⟩
      rw [back]
      refine x_nil (x_some (d := vouD (vo to) r.2) ?_ p)
      rw [sk]
      unfold vouD
      show some (D.tup _) = _
      rw [List.filter_map, List.map_map]
      rfl
  · exact absurd en ne
theorem same9 {d : D} (hs : d.sz < 12) (hp : d.pl = true) (p : P (.bl true) h) : Sat (Mi.m_law_same [d, d] h) P := by
  refine same_k hs hp hp ?_
  rw [decide_eq_true rfl]
  exact p
theorem clO_pl (cl : List (Str × Str)) (to : Str) : (clO cl to).sz < 12 ∧ (clO cl to).pl = true := by
  unfold clO
  cases clF cl to <;> simp [D.sz, D.pl]
theorem vou_rows : ∀ l : List Sg, D.pls (l.map fun v => .tup [.str v.1, .str v.2.2]) = true ∧ D.szs (l.map fun v => .tup [.str v.1, .str v.2.2]) ≤ 1
  | [] => ⟨rfl, by decide⟩
  | v :: l => by
    obtain ⟨a, b⟩ := vou_rows l
    constructor
    · simp [D.pls, D.pl, a]
    · simp [D.szs, D.sz]
      exact Nat.max_le.mpr ⟨Nat.le_refl _, b⟩
theorem vouO_pl (B : Bd rv sg vo cl st) (to : Str) : (vouO vo cl to).sz < 12 ∧ (vouO vo cl to).pl = true := by
  unfold vouO
  cases clF cl to with
  | none => simp [D.sz, D.pl, D.szs, D.pls]
  | some p =>
    obtain ⟨a, b⟩ := vou_rows ((vo to).filter fun v => decide (v.2.1 = p.2))
    have vl := B.vl to
    have := List.length_filter_le (fun v : Sg => decide (v.2.1 = p.2)) (vo to)
    unfold vouD
    simp only []
    rw [D.sz, D.pl, a, Bool.and_true]
    exact ⟨by omega, decide_eq_true (by rw [List.length_map]; omega)⟩
end
end Vi

set_option Elab.async false
set_option linter.all false
set_option autoImplicit false
set_option maxRecDepth 100000
set_option maxHeartbeats 2000000
namespace Vi
open PySem PySem.Spec PyProof.Rows L2
open scoped Classical
local macro_rules | `(tactic| walk_at "x1") => `(tactic| with_reducible first
  | refine x_bin ?_ | refine x_tst ?_ | refine x_oB ?_ | refine x_c ?_ | refine s_seqA ?_ | refine s_seqU ?_ | refine s_seqE ?_ | refine s_seqN ?_ | refine s_seqD ?_ | refine s_seqF ?_ | refine s_seqL ?_ | refine s_asg' ?_ | refine s_if' ?_ | refine s_ret' ?_ | refine s_exp' ?_ | refine s_next ?_ | refine s_retN' ?_ | refine s_sub' ?_ | refine s_dsub' ?_ | refine s_setF' ?_ | refine s_ddel' ?_
  | refine x_cb ?_ | refine x_cons ?_ | refine x_nil ?_ | refine x_call ?_ | refine x_met ?_ | refine x_meth ?_ | refine x_make ?_ | refine x_fld ?_ | refine x_un ?_ | refine x_notT ?_ | refine x_andT ?_ | refine x_orT ?_ | refine x_and ?_ | refine x_or ?_ | refine x_not ?_ | refine x_if ?_
  | refine x_tup ?_ | refine x_lst ?_ | refine x_cel ?_ | refine x_dnew ?_ | refine x_sortIt ?_ | refine x_sl ?_ | refine x_noP ?_ | refine x_part ?_ | refine x_oI ?_ | refine x_mI ?_ | refine x_rng ?_ | refine x_yes ?_ | refine x_chn ?_ | refine x_fun ?_ | refine x_ok ?_)
local macro_rules | `(tactic| walk_at "x2") => `(tactic| first
  | ((with_reducible refine y_var ?_); refine ⟨_, rfl, ?_⟩)
  | ((with_reducible refine y_some ?_); refine ⟨_, rfl, ?_⟩)
  | ((with_reducible refine y_gP ?_); refine ⟨_, rfl, ?_⟩))
local macro_rules | `(tactic| walk_at "x") => `(tactic| repeat (first | walk_at "x1" | walk_at "x2" ))
local macro_rules | `(tactic| walk_at "nx") => `(tactic| (refine next_k (by assumption) (by assumption) (by first | decide | omega) (by first | decide | omega) ?_))
theorem in_lst {x : Str} {ys : List Str} {h : Hap} : inO (.str x) (.lst (ys.map .str)) h = some (decide (x ∈ ys)) := by
  have fl : fls (ys.map D.str) = some (ys.map V.str) := by
    induction ys with
    | nil => rfl
    | cons y ys ih => rw [List.map_cons, fls, ih]; rfl
  have e2 : inV (.str x) (ys.map V.str) = decide (x ∈ ys) := by
    unfold inV
    rw [Bool.eq_iff_iff, List.any_eq_true, decide_eq_true_iff]
    constructor
    · rintro ⟨v, m, q⟩
      obtain ⟨y, m2, rfl⟩ := List.mem_map.mp m
      have q : (y == x) = true := q
      rw [← beq_iff_eq.mp q]
      exact m2
    · intro m
      exact ⟨.str x, List.mem_map.mpr ⟨x, m, rfl⟩, (beq_self_eq_true x : (x == x) = true)⟩
  show (match (D.str x).fl, (getQ (.lst (ys.map .str)) h).bind fls with
    | some x, some xs => some (inV x xs)
    | _, _ => none) = _
  have : getQ (.lst (ys.map .str)) h = some (ys.map .str) := rfl
  rw [this, Option.bind_some, fl]
  exact congrArg some e2
theorem getS_iff {vs : List Sg} {x : Str} : (getS vs x).isSome = decide (x ∈ vs.map Prod.fst) := by
  unfold getS
  rw [Bool.eq_iff_iff, List.find?_isSome, decide_eq_true_iff, List.mem_map]
  constructor
  · rintro ⟨v, m, e⟩
    exact ⟨v, m, of_decide_eq_true e⟩
  · rintro ⟨v, m, e⟩
    exact ⟨v, m, decide_eq_true e⟩
abbrev tpD : List (Key × D) := [(.inr "t", .ref 8), (.inr "u", .ref 9), (.inr "made\n", .ref 10)]
structure Tl (vo : Str → List Sg) (cl : List (Str × Str)) (t : Hap) : Prop where
  lk : t[6]? = some (.lok tpD)
  tq : ∀ x ∈ T3, t[7 + T3.idxOf x]? = some (.lst ((vo x).map sgD))
  cc : t[10]? = some (.dct (clD cl))
section
variable {need : Int} {rv : List Str} {sg : List Qd} {vo : Str → List Sg} {cl : List (Str × Str)} {st : List Str} {ix : List (Str × Nat)} {t t' h : Hap} {P : D → Hap → Prop} {E : EX} {to ho c m x : Str} {env : Env} {Q : Ps}
theorem Tl.fr (T : Tl vo cl t) (f : Fr t t') : Tl vo cl t' :=
  ⟨(f.1 6 (by omega) (by omega)).trans T.lk, fun x mx => (f.1 _ (by omega) (by have := t3_lt mx; omega)).trans (T.tq x mx), (f.1 10 (by omega) (by omega)).trans T.cc⟩
/-- a topic's list, as an expression -/
theorem x_tq (T : Tl vo cl t) (s : St t h) (mx : x ∈ T3) (e1 : env[1]? = some (some (.ref 7))) (e5 : env[5]? = some (some (.str x))) : Sat (mI (mBin dDGetL (mVar 1) (mVar 5)) env h) fun s h1 => h1 = h ∧ s.1 = (vo x).map sgD ∧ s.2 h :=
  x_items (dd := .ref (8 + T3.idxOf x)) (by rw [show 8 + T3.idxOf x = 7 + T3.idxOf x + 1 by omega]; exact sq9 ((s.at9 _).trans (T.tq x mx))) (x_bin (x_var e1 (x_var e5 (v_dsubL ((s.at9 6).trans T.lk) (tp_val x mx) ⟨rfl, rfl⟩))))
abbrev eT (a5 a6 a7 a8 a9 : Option D) : Env := [some (.ref 1), some (.ref 7), some (.ref 11), some (.ref 12), some (.lst (HS.map .str)), a5, a6, a7, a8, a9, none, none]
noncomputable def tt32 : MS := (mSeq (mAsg (mMet "dict" (gP dGet2) (mVar 2) (mCons (mVar 5) (mCons (mC .non) mNil))) (gNm 6))
    (mSeq (mIfS (mNotT (mTst (mCall Mi.m_law_same (mCons (mMeth "Roster" "claim_of" Mi.m_Roster_claim_of (mVar 0) (mCons (mVar 5) mNil)) (mCons (mVar 6) mNil))))) (mRet (mC (.bl false))) mNext)
    (mSeq (mAsg (mTup mNil) (gNm 7))
    (mSeq (mIfS (mTst (mBin dIsNot (mVar 6) (mC .non))) (mAsg (mCB dTupleOf (mCons (mComp (mI (mBin dDGetL (mVar 1) (mVar 5))) [11] (gNm 11) (mTst (mBin dEq (mBin dIx (mVar 11) (mC (.int 1))) (mVar 6))) (mTup (mCons (mBin dIx (mVar 11) (mC (.int 0))) (mCons (mBin dIx (mVar 11) (mC (.int 2))) mNil)))) mNil)) (gNm 7)) mNext)
    (mSeq (mIfS (mNotT (mTst (mCall Mi.m_law_same (mCons (mMeth "Roster" "vouchers" Mi.m_Roster_vouchers (mVar 0) (mCons (mVar 5) mNil)) (mCons (mVar 7) mNil))))) (mRet (mC (.bl false))) mNext)
    (mFor (mI (mVar 4)) (gNm 8) (mSeq (mAsg (mBin dIn (mVar 8) (mComp (mI (mBin dDGetL (mVar 1) (mVar 5))) [11] (gNm 11) mYes (mBin dIx (mVar 11) (mC (.int 0))))) (gNm 9))
    (mIfS (mNotT (mTst (mCall Mi.m_law_yes (mCons (mMeth "Roster" "has_voice" Mi.m_Roster_has_voice (mVar 0) (mCons (mVar 5) (mCons (mVar 8) mNil))) (mCons (mVar 9) mNil))))) (mRet (mC (.bl false))) mNext))))))))
theorem told_topic (B : Bd rv sg vo cl st) (W : Vw need rv sg vo cl st ix t) (T : Tl vo cl t) (s : St t h) (mx : x ∈ T3) {a6 a7 a8 a9 : Option D} (q : ∀ a5 a6 a7 a8 a9 t' h', St t' h' → Vw need rv sg vo cl st ix t' → Tl vo cl t' → Fr t t' → Q.n (eT a5 a6 a7 a8 a9) h') :
    SatS (tt32 (eT (some (.str x)) a6 a7 a8 a9) h) Q := by
  unfold tt32
  have h11 := (s.at9 10).trans T.cc
  have hi := W.hi s
  have vl := B.vl x
  have e0 : (valD (clD cl) (.inr x)).getD .non = clO cl x := by rw [val_cl]; rfl
  refine s_seq (s_asg' (x_met (x_var rfl ⟨isd_at h11, x_cons (x_var rfl (x_cons (x_c (x_nil (v_dget2 h11 ?_)))))⟩)))
  rw [e0]
  have cp := clO_pl cl x
  dsimp only
  refine s_seq (s_if' (x_notT (x_tst (x_call (x_cons (x_meth (x_var rfl ⟨isI_at hi rfl, x_cons (x_var rfl (x_nil (claim_v hi (W.h6 s) (x_cons (x_var rfl (x_nil (same9 cp.1 cp.2 (x_oB ⟨fun z => (nomatch z), fun _ => s_next ?_⟩))))))))⟩)))))))
  dsimp only
  refine s_seq (s_asg' (x_tup (x_nil ⟨sl_le (show 0 ≤ 16777216 by decide), ?_⟩)))
  refine s_cut (fun e h' => e = eT (some (.str x)) (some (clO cl x)) (some (vouO vo cl x)) a8 a9 ∧ h' = h) ?_ ?_
  · cases ec : clF cl x with
    | none =>
      have e1 : clO cl x = .non := by unfold clO; rw [ec]; rfl
      have e2 : vouO vo cl x = .tup [] := by unfold vouO; rw [ec]
      rw [e1, e2]
      exact s_if' (x_tst (x_bin (x_var rfl (x_c (x_some (d := .bl false) rfl (x_oB ⟨fun z => (nomatch z), fun _ => s_next ⟨rfl, rfl⟩⟩))))))
    | some p =>
      have e1 : clO cl x = .str p.2 := by unfold clO; rw [ec]; rfl
      have e2 : vouO vo cl x = vouD (vo x) p.2 := by unfold vouO; rw [ec]
      rw [e1, e2]
      refine s_if' (x_tst (x_bin (x_var rfl (x_c (x_some (d := .bl true) rfl (x_oB ⟨fun _ => ?_, fun z => nomatch z⟩))))))
      refine s_asg' (x_cb (x_cons (x_compFM ((vo x).map sgD) (fun d => match d with
        | .tup [_, .str b, _] => decide (b = p.2)
        | _ => false) (fun d => match d with
        | .tup [.str a, _, .str m] => .tup [.str a, .str m]
        | d => d) (by rw [List.length_map]; exact sl_le (by omega)) (x_tq T s mx rfl rfl) (fun d md => ?_) ?_)))
      · obtain ⟨⟨vh, vc, vm⟩, mv, rfl⟩ := List.mem_map.mp md
        refine ⟨_, rfl, x_tst (x_bin (x_bin (x_var rfl (x_c (x_some (d := .str vc) rfl (x_var rfl (x_some (d := .bl (decide (vc = p.2))) rfl (x_oB ⟨rfl, rfl, fun _ => ?_⟩))))))))⟩
        exact x_tup (x_cons (x_bin (x_var rfl (x_c (x_some (d := .str vh) rfl (x_cons (x_bin (x_var rfl (x_c (x_some (d := .str vm) rfl (x_nil ⟨sl_le (show 2 ≤ 16777216 by decide), rfl, rfl⟩)))))))))))
      · refine x_nil (x_some (d := vouD (vo x) p.2) ?_ ⟨rfl, rfl⟩)
        unfold vouD
        show some (D.tup _) = _
        rw [List.filter_map, List.map_map]
        rfl
  rintro e h' ⟨rfl, rfl⟩
  have vp := vouO_pl B x
  refine s_seq (s_if' (x_notT (x_tst (x_call (x_cons (x_meth (x_var rfl ⟨isI_at hi rfl, x_cons (x_var rfl (x_nil (vouchers_v B W s (x_cons (x_var rfl (x_nil (same9 vp.1 vp.2 (x_oB ⟨fun z => (nomatch z), fun _ => s_next ?_⟩))))))))⟩)))))))
  dsimp only
  clear h11 hi
  refine s_forI (fun pre post e h' => (∃ a8 a9, e = eT (some (.str x)) (some (clO cl x)) (some (vouO vo cl x)) a8 a9) ∧ ∃ t', St t' h' ∧ Vw need rv sg vo cl st ix t' ∧ Tl vo cl t' ∧ Fr t t') ?_
  refine x_mI (x_var rfl ⟨HS.map .str, rfl, ⟨⟨_, _, rfl⟩, t, s, W, T, Fr.refl t⟩, fun _ _ _ _ _ _ => rfl, ?_, ?_⟩)
  · rintro pre y post e h' hx ⟨⟨a8, a9, rfl⟩, t', s', W', T', F'⟩
    have hx : HS.map D.str = _ := hx
    have my : y ∈ HS.map D.str := by rw [hx]; simp
    obtain ⟨ho, mh, rfl⟩ := List.mem_map.mp my
    refine ⟨_, rfl, ?_⟩
    refine s_seq (s_asg' (x_bin (x_var rfl (x_compM ((vo x).map sgD) (fun d => match d with
      | .tup [.str a, _, _] => .str a
      | d => d) (by rw [List.length_map]; exact sl_le (by omega)) (x_tq T' s' mx rfl rfl) (fun d md => ?_) ?_))))
    · obtain ⟨⟨vh, vc, vm⟩, mv, rfl⟩ := List.mem_map.mp md
      exact ⟨_, rfl, x_bin (x_var rfl (x_c (x_some (d := .str vh) rfl ⟨rfl, rfl⟩)))⟩
    have ek : ((vo x).map sgD).map (fun d => match d with
      | .tup [.str a, _, _] => .str a
      | d => d) = ((vo x).map Prod.fst).map D.str := by rw [List.map_map, List.map_map]; rfl
    rw [ek]
    refine x_some (d := .bl (decide (ho ∈ (vo x).map Prod.fst))) (by unfold dIn; rw [in_lst]; rfl) ?_
    dsimp only
    refine s_if' (x_notT (x_tst (x_call (x_cons (x_meth (x_var rfl ⟨isI_at (W'.hi s') rfl, x_cons (x_var rfl (x_cons (x_var rfl (x_nil (has_voice_v W' s' (x_cons (x_var rfl (x_nil (ysb_k ?_)))))))))⟩))))))
    rw [getS_iff, decide_eq_true rfl]
    exact x_oB ⟨fun z => (nomatch z), fun _ => s_next ⟨⟨_, _, rfl⟩, _, s'.app9 _, W'.app _, T'.fr (Fr.app W'.wl), F'.trans (Fr.app W'.wl)⟩⟩
  · rintro e h' ⟨⟨a8, a9, rfl⟩, t', s', W', T', F'⟩
    exact q _ _ _ _ _ t' h' s' W' T' F'
theorem told6_k (B : Bd rv sg vo cl st) (W : Vw need rv sg vo cl st ix t) (T : Tb rv sg vo cl st t) (s : St t h) (k : ∀ t' h', St t' h' → Vw need rv sg vo cl st ix t' → Tb rv sg vo cl st t' → P (.bl true) h') :
    Sat (Mi.m_law_told_6 [.ref 1, .ref 7, .ref 11, .ref 12, .lst (HS.map .str)] h) P := by
  unfold Mi.m_law_told_6 Mi.b_law_told_6
  have h7 := (s.at9 6).trans T.tp
  have hlen := T.len
  refine x_fun (s_cut (fun e h' => (∃ a5 a6 a7 a8 a9, e = eT a5 a6 a7 a8 a9) ∧ ∃ t', St t' h' ∧ Vw need rv sg vo cl st ix t' ∧ Tb rv sg vo cl st t') ?_ ?_)
  · refine s_lokS9 (j := 7) rfl h7 ?_
    have s1 := s.set9 6 (.lok tpD)
    have W1 : Vw need rv sg vo cl st ix (t.set 6 (.lok tpD)) := W.fl (Fl.set (by decide) (by decide))
    have T1 : Tl vo cl (t.set 6 (.lok tpD)) := ⟨List.getElem?_set_self (by omega), fun x mx => by rw [List.getElem?_set_ne (by omega)]; exact T.tq x mx, by rw [List.getElem?_set_ne (by omega)]; exact T.cc⟩
    refine s_forI (fun pre post e h' => (∃ a5 a6 a7 a8 a9, e = eT a5 a6 a7 a8 a9) ∧ ∃ t', St t' h' ∧ Vw need rv sg vo cl st ix t' ∧ Tl vo cl t' ∧ Fr (t.set 6 (.lok tpD)) t') ?_
    refine Sat.mono (x_IWf (j := 7) (kds := tpD) (x_var rfl ⟨rfl, rfl⟩) ((s1.at9 6).trans T1.lk)) fun sx h4 z => ?_
    obtain ⟨rfl, ek, gd⟩ := z
    have ek : sx.1 = T3.map D.str := ek
    refine ⟨⟨⟨_, _, _, _, _, rfl⟩, _, s1, W1, T1, Fr.refl _⟩, ?_, ?_, ?_⟩
    · rintro pre post e h' _ ⟨_, t', s', W', T', F'⟩
      exact gd _ ((s'.at9 6).trans T'.lk)
    · rintro pre y post e h' hx ⟨⟨a5, a6, a7, a8, a9, rfl⟩, t', s', W', T', F'⟩
      rw [ek] at hx
      have my : y ∈ T3.map D.str := by rw [hx]; simp
      obtain ⟨x, mx, rfl⟩ := List.mem_map.mp my
      refine ⟨_, rfl, ?_⟩
      exact told_topic B W' T' s' mx fun b5 b6 b7 b8 b9 t2 h2 s2 W2 T2 F2 => ⟨⟨_, _, _, _, _, rfl⟩, t2, s2, W2, T2, F'.trans F2⟩
    · rintro e h' ⟨⟨a5, a6, a7, a8, a9, rfl⟩, t', s', W', T', F'⟩
      refine ⟨(s'.at9 6).trans T'.lk, ⟨_, _, _, _, _, rfl⟩, _, s'.set9 6 _, W'.fl (Fl.set (by decide) (by decide)), ?_⟩
      have f : ∀ j, 7 ≤ j → j < 14 → t'[j]? = t[j]? := fun j h0 h1 => (F'.1 j (by omega) h1).trans (List.getElem?_set_ne (by omega))
      have l' : 6 < t'.length := (List.getElem?_eq_some_iff.mp T'.lk).1
      refine ⟨List.getElem?_set_self l', fun x mx => ?_, ?_, ?_, ?_, ?_⟩
      · rw [List.getElem?_set_ne (by omega)]; exact T'.tq x mx
      · rw [List.getElem?_set_ne (by omega)]; exact T'.cc
      · rw [List.getElem?_set_ne (by omega), f 11 (by omega) (by omega)]; exact T.ss
      · rw [List.getElem?_set_ne (by omega), f 12 (by omega) (by omega)]; exact T.rr
      · rw [List.getElem?_set_ne (by omega), f 13 (by omega) (by omega)]; exact T.gg
  rintro e h' ⟨⟨a5, a6, a7, a8, a9, rfl⟩, t1, s1, W1, T1⟩
  clear T W s h7 hlen
  have hi := W1.hi s1
  have h12 := (s1.at9 11).trans T1.ss
  refine s_seq (s_look (HS.map .str) (fun e => ∃ a5 a6 a7 a8 a9, e = eT a5 a6 a7 a8 a9) (fun _ => True) (x_items (dd := .lst (HS.map .str)) rfl (x_var rfl ⟨rfl, rfl⟩)) ⟨_, _, _, _, _, rfl⟩ (fun y my e i => ?_) fun e i _ => ?_)
  · obtain ⟨b5, b6, b7, b8, b9, rfl⟩ := i
    obtain ⟨ho, mh, rfl⟩ := List.mem_map.mp my
    refine ⟨_, rfl, ?_⟩
    refine s_if' (x_notT (x_tst (x_call (x_cons (x_meth (x_var rfl ⟨isI_at hi rfl, x_cons (x_var rfl (x_nil (strikes_v hi (W1.h2 s1) (W1.h3 s1) mh (x_cons (x_met (x_var rfl ⟨isl9 h12, x_cons (x_var rfl (x_nil (x_gP (d := .int (st.count ho : Nat)) ?_ (x_nil (same9 (by simp [D.sz]) (by simp [D.pl]) (x_oB ⟨fun z => (nomatch z), fun _ => s_next ⟨rfl, ⟨_, _, _, _, _, rfl⟩, trivial⟩⟩))))))⟩))))))⟩))))))
    unfold dCntT
    simp only []
    rw [show getL (.ref 12) h' = some (st.map .str) by simp [getL, h12], Option.bind_some, strsOf_map]
    rfl
  · obtain ⟨b5, b6, b7, b8, b9, rfl⟩ := i
    dsimp only
    refine s_seq (X.tryAs (XM.exp (x_var rfl ⟨isI_at hi rfl, x_cons (x_c (x_nil (strikes_no hi (W1.h2 s1) (by decide) ⟨by simp, s_ret' (x_call (x_cons (x_some (d := .str "unknown") rfl (x_cons (x_c (x_nil (same9 (by simp [D.sz]) (by simp [D.pl]) ?_)))))))⟩)))⟩)))
    exact k t1 h' s1 W1 T1
end
end Vi

set_option Elab.async false
set_option linter.all false
set_option autoImplicit false
set_option maxRecDepth 100000
set_option maxHeartbeats 2000000
namespace Vi
open PySem PySem.Spec PyProof.Rows L2
open scoped Classical
local macro_rules | `(tactic| walk_at "x1") => `(tactic| with_reducible first
  | refine x_bin ?_ | refine x_tst ?_ | refine x_oB ?_ | refine x_c ?_ | refine s_seqA ?_ | refine s_seqU ?_ | refine s_seqE ?_ | refine s_seqN ?_ | refine s_seqD ?_ | refine s_seqF ?_ | refine s_seqL ?_ | refine s_asg' ?_ | refine s_if' ?_ | refine s_ret' ?_ | refine s_exp' ?_ | refine s_next ?_ | refine s_retN' ?_ | refine s_sub' ?_ | refine s_dsub' ?_ | refine s_setF' ?_ | refine s_ddel' ?_
  | refine x_cb ?_ | refine x_cons ?_ | refine x_nil ?_ | refine x_call ?_ | refine x_met ?_ | refine x_meth ?_ | refine x_make ?_ | refine x_fld ?_ | refine x_un ?_ | refine x_notT ?_ | refine x_andT ?_ | refine x_orT ?_ | refine x_and ?_ | refine x_or ?_ | refine x_not ?_ | refine x_if ?_
  | refine x_tup ?_ | refine x_lst ?_ | refine x_cel ?_ | refine x_dnew ?_ | refine x_sortIt ?_ | refine x_sl ?_ | refine x_noP ?_ | refine x_part ?_ | refine x_oI ?_ | refine x_mI ?_ | refine x_rng ?_ | refine x_yes ?_ | refine x_chn ?_ | refine x_fun ?_ | refine x_ok ?_)
local macro_rules | `(tactic| walk_at "x2") => `(tactic| first
  | ((with_reducible refine y_var ?_); refine ⟨_, rfl, ?_⟩)
  | ((with_reducible refine y_some ?_); refine ⟨_, rfl, ?_⟩)
  | ((with_reducible refine y_gP ?_); refine ⟨_, rfl, ?_⟩))
local macro_rules | `(tactic| walk_at "x") => `(tactic| repeat (first | walk_at "x1" | walk_at "x2" ))
local macro_rules | `(tactic| walk_at "nx") => `(tactic| (refine next_k (by assumption) (by assumption) (by first | decide | omega) (by first | decide | omega) ?_))
theorem eqv_qd (p q : Qd) : PyData.eqv (.tuple [.str p.1, .str p.2.1, .str p.2.2.1, .str p.2.2.2]) (.tuple [.str q.1, .str q.2.1, .str q.2.2.1, .str q.2.2.2]) = decide (p = q) := by
  have : PyData.eqv (.tuple [.str p.1, .str p.2.1, .str p.2.2.1, .str p.2.2.2]) (.tuple [.str q.1, .str q.2.1, .str q.2.2.1, .str q.2.2.2]) = ((p.1 == q.1) && ((p.2.1 == q.2.1) && ((p.2.2.1 == q.2.2.1) && ((p.2.2.2 == q.2.2.2) && true)))) := rfl
  rw [this, Bool.eq_iff_iff]
  simp [Prod.ext_iff]
def okq (r : Qd) : Prop := okS r.1 ∧ okS r.2.1 ∧ okS r.2.2.1 ∧ okS r.2.2.2
theorem in_qds {acc : List Qd} {p : Qd} {i : Nat} {g : Hap} (hg : g[i]? = some (.lst (acc.map qdD))) (ha : ∀ q ∈ acc, okq q) (hp : okq p) : dInD (qdD p) (.ref i) g = some (.bl (decide (p ∈ acc))) := by
  have e1 : pyOf (qdD p) g = some (.tuple [.str p.1, .str p.2.1, .str p.2.2.1, .str p.2.2.2]) := rfl
  have e2 : D.pys (acc.map qdD) = some (acc.map fun q => .tuple [.str q.1, .str q.2.1, .str q.2.2.1, .str q.2.2.2]) := by
    clear hg ha
    induction acc with
    | nil => rfl
    | cons q acc ih =>
      rw [List.map_cons, List.map_cons, D.pys, ih]
      rfl
  have e3 : pyOf (.ref i) g = some (.list (acc.map fun q => .tuple [.str q.1, .str q.2.1, .str q.2.2.1, .str q.2.2.2])) := by
    show (match g[i]? with | some (.lst xs) => (D.pys xs).map PyData.list | _ => none) = _
    rw [hg]
    simp only []
    rw [e2]
    rfl
  have s1 : SeqAt.shaped (.tuple [.str p.1, .str p.2.1, .str p.2.2.1, .str p.2.2.2]) = true := by
    have o1 : PyData.strOk p.1 = true := hp.1
    have o2 : PyData.strOk p.2.1 = true := hp.2.1
    have o3 : PyData.strOk p.2.2.1 = true := hp.2.2.1
    have o4 : PyData.strOk p.2.2.2 = true := hp.2.2.2
    unfold SeqAt.shaped
    simp [PyData.canLay0, PyData.canLayAll0, o1, o2, o3, o4, PyData.depth, PyData.depthAll]
  have s2 : SeqAt.shaped (.list (acc.map fun q => .tuple [.str q.1, .str q.2.1, .str q.2.2.1, .str q.2.2.2])) = true := by
    have c1 : PyData.canLayAll0 (acc.map fun q => .tuple [.str q.1, .str q.2.1, .str q.2.2.1, .str q.2.2.2]) = true ∧ PyData.depthAll (acc.map fun q => .tuple [.str q.1, .str q.2.1, .str q.2.2.1, .str q.2.2.2]) ≤ 1 := by
      clear hg e2 e3
      induction acc with
      | nil => exact ⟨rfl, by decide⟩
      | cons q acc ih =>
        have o1 : PyData.strOk q.1 = true := (ha q List.mem_cons_self).1
        have o2 : PyData.strOk q.2.1 = true := (ha q List.mem_cons_self).2.1
        have o3 : PyData.strOk q.2.2.1 = true := (ha q List.mem_cons_self).2.2.1
        have o4 : PyData.strOk q.2.2.2 = true := (ha q List.mem_cons_self).2.2.2
        obtain ⟨i1, i2⟩ := ih fun x m => ha x (List.mem_cons_of_mem _ m)
        refine ⟨by simp [PyData.canLayAll0, PyData.canLay0, o1, o2, o3, o4, i1], ?_⟩
        simp [PyData.depthAll, PyData.depth]
        omega
    unfold SeqAt.shaped
    rw [PyData.canLay0, c1.1, PyData.depth, decide_eq_true (by have := c1.2; omega)]
    rfl
  unfold dInD inDO
  rw [e1, e3]
  simp only []
  rw [if_pos ⟨s1, s2⟩, Option.map_some]
  congr 2
  rw [List.any_map, Bool.eq_iff_iff, List.any_eq_true, decide_eq_true_iff]
  constructor
  · rintro ⟨q, m, e⟩
    have e : PyData.eqv (.tuple [.str q.1, .str q.2.1, .str q.2.2.1, .str q.2.2.2]) (.tuple [.str p.1, .str p.2.1, .str p.2.2.1, .str p.2.2.2]) = true := e
    rw [eqv_qd] at e
    rw [← of_decide_eq_true e]
    exact m
  · intro m
    exact ⟨p, m, by show PyData.eqv _ _ = true; rw [eqv_qd]; exact decide_eq_true rfl⟩
section
variable {need : Int} {rv : List Str} {sg : List Qd} {vo : Str → List Sg} {cl : List (Str × Str)} {st : List Str} {ix : List (Str × Nat)} {t t' h : Hap} {P : D → Hap → Prop} {E : EX} {to ho c m x : Str} {env : Env} {Q : Ps}
theorem Vw.sign (W : Vw need rv sg vo cl st ix t) (sg' : List Qd) : Vw need rv sg' vo cl st ix (t.set 3 (.dct ((sg'.map qs).map sgK))) := by
  have w := W.wl
  refine ⟨?_, ?_, ?_, ?_, ?_, ?_, fun p mp => ⟨(W.inn p mp).1, ?_, (W.inn p mp).2.2⟩, W.nx, W.ny, W.off, by rw [List.length_set]; exact w⟩
  · rw [List.getElem?_set_ne (by omega)]; exact W.i
  · rw [List.getElem?_set_ne (by omega)]; exact W.hh
  · rw [List.getElem?_set_ne (by omega)]; exact W.ss
  · rw [List.getElem?_set_self (by omega)]
  · rw [List.getElem?_set_ne (by omega)]; exact W.vv
  · rw [List.getElem?_set_ne (by omega)]; exact W.cc
  · rw [List.getElem?_set_ne (by have := (W.inn p mp).1; omega)]; exact (W.inn p mp).2.1
theorem Vw.revoke (W : Vw need rv sg vo cl st ix t) (rv' : List Str) : Vw need rv' sg vo cl st ix (t.set 1 (.dct (hrD rv'))) := by
  have w := W.wl
  refine ⟨?_, ?_, ?_, ?_, ?_, ?_, fun p mp => ⟨(W.inn p mp).1, ?_, (W.inn p mp).2.2⟩, W.nx, W.ny, W.off, by rw [List.length_set]; exact w⟩
  · rw [List.getElem?_set_ne (by omega)]; exact W.i
  · rw [List.getElem?_set_self (by omega)]
  · rw [List.getElem?_set_ne (by omega)]; exact W.ss
  · rw [List.getElem?_set_ne (by omega)]; exact W.gg
  · rw [List.getElem?_set_ne (by omega)]; exact W.vv
  · rw [List.getElem?_set_ne (by omega)]; exact W.cc
  · rw [List.getElem?_set_ne (by have := (W.inn p mp).1; omega)]; exact (W.inn p mp).2.1
theorem Tb.revoke (T : Tb rv sg vo cl st t) (rv' : List Str) : Tb rv' sg vo cl st (t.set 12 (.lst (rv'.map .str))) := by
  have hl := T.len
  refine ⟨by rw [List.getElem?_set_ne (by omega)]; exact T.tp, fun x mx => ?_, by rw [List.getElem?_set_ne (by omega)]; exact T.cc, by rw [List.getElem?_set_ne (by omega)]; exact T.ss, by rw [List.getElem?_set_self (by omega)], by rw [List.getElem?_set_ne (by omega)]; exact T.gg⟩
  have := t3_lt mx
  rw [List.getElem?_set_ne (by omega)]
  exact T.tq x mx
theorem Tb.sign (T : Tb rv sg vo cl st t) (sg' : List Qd) : Tb rv sg' vo cl st (t.set 13 (.lst (sg'.map qdD))) := by
  have hl := T.len
  refine ⟨by rw [List.getElem?_set_ne (by omega)]; exact T.tp, fun x mx => ?_, by rw [List.getElem?_set_ne (by omega)]; exact T.cc, by rw [List.getElem?_set_ne (by omega)]; exact T.ss, by rw [List.getElem?_set_ne (by omega)]; exact T.rr, by rw [List.getElem?_set_self (by omega)]⟩
  have := t3_lt mx
  rw [List.getElem?_set_ne (by omega)]
  exact T.tq x mx
theorem Bd.revoke (B : Bd rv sg vo cl st) (mh : ho ∈ HS) (nr : ho ∉ rv) (hr : rv.length < 200) (hg : sg.length < 200) : Bd (rv ++ [ho]) sg vo cl st := by
  have oh := okS_H mh
  have ah := asc_all (hs_ok ho mh).2
  have z := (B.R.step (x := ho) (tx := "") 1 ah oh.1 oh.2 (okS_iff.mpr (by decide +kernel)) (by decide) hr (by rw [List.length_map]; exact hg)).1
  have kk : dueF 1 ho "" HS rv (sg.map qs) = (.non, HS, rv ++ [ho], sg.map qs) := by
    unfold dueF
    rw [if_neg (by decide), if_neg (fun q => q mh), if_neg nr, if_pos rfl]
  rw [kk] at z
  exact ⟨z, B.sq, B.vb, B.cn, B.cb, B.sb⟩
theorem Bd.sign (B : Bd rv sg vo cl st) (mt : to ∈ T3) (mh : ho ∈ HS) (mc : c ∈ C3) (nr : ho ∉ rv) (hr : rv.length < 200) (hg : sg.length < 200) : Bd rv (sg ++ [(Vi.mk ho (sg.length + 1), ho, to, c)]) vo cl st := by
  have oh := okS_H mh
  have ah := asc_all (hs_ok ho mh).2
  have ow := okS_W mt mc
  have z := (B.R.step (x := ho) (tx := wd to c) 2 ah oh.1 oh.2 ow.1 ow.2 hr (by rw [List.length_map]; exact hg)).1
  have kk : dueF 2 ho (wd to c) HS rv (sg.map qs) = (.str (Vi.mk ho ((sg.map qs).length + 1)), HS, rv, sg.map qs ++ [(Vi.mk ho ((sg.map qs).length + 1), ho, wd to c)]) := by
    unfold dueF
    rw [if_neg (by decide), if_neg (fun q => q mh), if_neg nr, if_neg (by decide)]
  rw [kk] at z
  dsimp only at z
  rw [List.length_map] at z
  have e : (sg ++ [(Vi.mk ho (sg.length + 1), ho, to, c)]).map qs = sg.map qs ++ [(Vi.mk ho (sg.length + 1), ho, wd to c)] := by rw [List.map_append]; rfl
  refine ⟨by rw [e]; exact z, fun q mq => ?_, B.vb, B.cn, B.cb, B.sb⟩
  rcases List.mem_append.mp mq with mq | mq
  · exact B.sq q mq
  · rw [List.mem_singleton.mp mq]
    exact ⟨mt, mc⟩
theorem Bd.due (B : Bd rv sg vo cl st) (mt : to ∈ T3) (mh : ho ∈ HS) (mc : c ∈ C3) (om : okS m) (hs : st.length + 6 ≤ 1000) :
    Bd rv sg (dueV need rv to ho c m vo cl st).2.1 (dueV need rv to ho c m vo cl st).2.2.1 (dueV need rv to ho c m vo cl st).2.2.2 ∧ (dueV need rv to ho c m vo cl st).2.2.2.length ≤ st.length + 6 := by
  have sb := B.sb
  have more : Bd rv sg vo cl (st ++ [ho]) := ⟨B.R, B.sq, B.vb, B.cn, B.cb, by rw [List.length_append, List.length_singleton]; omega, fun x mx => (List.mem_append.mp mx).elim (sb.2 x) fun z => by rw [List.mem_singleton.mp z]; exact mh⟩
  unfold dueV
  cases g : getS (vo to) ho with
  | some r =>
    simp only []
    split
    · exact ⟨B, Nat.le_add_right _ _⟩
    · exact ⟨more, by rw [List.length_append, List.length_singleton]; omega⟩
  | none =>
    simp only []
    have vl := B.vl to
    cases ec : clF cl to with
    | some p =>
      simp only []
      split
      · exact ⟨B.say g mh mc om, Nat.le_add_right _ _⟩
      · exact ⟨more.say g mh mc om, by rw [List.length_append, List.length_singleton]; omega⟩
    | none =>
      simp only []
      have B1 := B.say g mh mc om
      split
      · exact ⟨B1, Nat.le_add_right _ _⟩
      · have fl : (((vo to ++ [(ho, c, m)]).filter fun v => decide (v.2.1 ≠ c)).map Prod.fst).length ≤ 6 := by
          rw [List.length_map]
          have := List.length_filter_le (fun v : Sg => decide (v.2.1 ≠ c)) (vo to ++ [(ho, c, m)])
          rw [List.length_append, List.length_singleton] at this
          omega
        refine ⟨⟨B1.R, B1.sq, B1.vb, ?_, fun p mp => ?_, by rw [List.length_append]; omega, fun x mx => ?_⟩, by rw [List.length_append]; omega⟩
        · rw [List.map_append, List.nodup_append]
          refine ⟨B.cn, by simp, fun a ma b mb z => ?_⟩
          obtain ⟨p, mp, rfl⟩ := List.mem_map.mp ma
          have : b = to := by simpa using mb
          exact (List.find?_eq_none.mp ec p mp) (decide_eq_true (z.trans this))
        · rcases List.mem_append.mp mp with mp | mp
          · exact B1.cb p mp
          · rw [List.mem_singleton.mp mp]
            refine ⟨mt, mc, ?_⟩
            show (if to = to then _ else _) ≠ []
            rw [if_pos rfl]; simp
        · rcases List.mem_append.mp mx with mx | mx
          · exact sb.2 x mx
          · obtain ⟨v, mv, rfl⟩ := List.mem_map.mp mx
            have mv := (List.mem_filter.mp mv).1
            rcases List.mem_append.mp mv with mv | mv
            · exact ((B.vb to).2 v mv).1
            · rw [List.mem_singleton.mp mv]; exact mh
theorem x_disp {ks : List Str} {ms : List ME} (s : Sat (mLs ms env (h ++ [.dct []])) fun ds h2 => h2[h.length]? = some (.dct []) ∧ ds.length = ks.length ∧ ks.length ≤ 15 ∧ P (.ref h.length) (h2.set h.length (.dct ((ks.zip ds).foldl (fun acc kv => putD acc (.inr kv.1) kv.2) [])))) : Sat (mDisp ks ms env h) P := Sat.bind (s.mono fun ds h2 ⟨a, b, d, p⟩ => by
  rw [a]
  simp only []
  rw [if_pos ⟨b, d⟩]
  exact p)
theorem hs_num : [("h" : Str) ++ nmS 0, "h" ++ nmS 1, "h" ++ nmS 2, "h" ++ nmS 3, "h" ++ nmS 4] = HS := by unfold nmS; decide +kernel
theorem rqH {hs ys : List Str} (e : HS = hs ++ ys) : Rq hs [] [] := by
  have hn : HS.Nodup := by decide +kernel
  have hl : HS.length = 5 := rfl
  rw [e] at hn
  have l2 := congrArg List.length e
  rw [List.length_append] at l2
  exact ⟨(List.nodup_append.mp hn).1, by omega, fun x mx => okS_H (by rw [e]; exact List.mem_append_left _ mx), by simp, by simp, by simp, by simp, by simp, by simp, by simp, by simp⟩
theorem houses32_k {s0 : Cel} (p : P (.lst (HS.map .str)) (s0 :: (rost need HS [] [] ++ []))) : Sat (Mi.m_law_houses [.ref 1, .int 5] (s0 :: (rost need [] [] [] ++ []))) P := by
  unfold Mi.m_law_houses Mi.b_law_houses
  have z5 : rngL 0 (5 : Int).toNat = [.int 0, .int 1, .int 2, .int 3, .int 4] := rfl
  refine x_fun (s_seq (s_asg' ?_))
  refine x_compM [.int 0, .int 1, .int 2, .int 3, .int 4] (fun d => match d with
    | .int i => .str ("h" ++ nmS i)
    | d => d) (sl_le (by decide)) (by rw [← z5]; exact x_nums (by decide) (x_cons (x_var rfl (x_nil ⟨rfl, rfl⟩)))) (fun d md => ?_) ?_
  · obtain ⟨i, hi, rfl⟩ : ∃ i : Nat, i < 5 ∧ d = .int (i : Int) := by
      simp only [List.mem_cons, List.not_mem_nil, or_false] at md
      rcases md with rfl | rfl | rfl | rfl | rfl
      · exact ⟨0, by decide, rfl⟩
      · exact ⟨1, by decide, rfl⟩
      · exact ⟨2, by decide, rfl⟩
      · exact ⟨3, by decide, rfl⟩
      · exact ⟨4, by decide, rfl⟩
    have q := nm_small (m := i) (by omega)
    have ln1 : ("h" : Str).length = 1 := by decide
    exact ⟨_, rfl, x_bin (x_c (x_cb (x_cons (x_var rfl (x_nil (x_some (d := .str (nmS (i : Int))) (if_pos q.1) (v_adds (sl_le (by rw [ln1]; have := q.2.1; omega)) ⟨rfl, rfl⟩)))))))⟩
  have e5 : [D.int 0, .int 1, .int 2, .int 3, .int 4].map (fun d => match d with
    | .int i => D.str ("h" ++ nmS i)
    | d => d) = HS.map .str := congrArg (List.map D.str) hs_num
  rw [e5]
  refine s_seq (s_forI (fun pre post e h => ∃ hs ys a, HS = hs ++ ys ∧ pre = hs.map .str ∧ e = [some (.ref 1), some (.int 5), some (.lst (HS.map .str)), a, none] ∧ h = s0 :: (rost need hs [] [] ++ [])) ?_)
  refine x_mI (x_var rfl ⟨HS.map .str, rfl, ⟨[], HS, _, rfl, rfl, rfl, rfl⟩, fun _ _ _ _ _ _ => rfl, ?_, ?_⟩)
  · rintro pre y post e h' hx ⟨hs, ys, a, e1, rfl, rfl, rfl⟩
    have hx : HS.map D.str = _ := hx
    rw [e1, List.map_append] at hx
    have hx := List.append_cancel_left hx
    obtain ⟨x, ys', rfl, rfl⟩ : ∃ x ys', ys = x :: ys' ∧ y = .str x := by
      cases ys with
      | nil => simp at hx
      | cons x ys' => exact ⟨x, ys', rfl, (List.cons.inj hx).1.symm⟩
    refine ⟨_, rfl, ?_⟩
    have hn : HS.Nodup := by decide +kernel
    rw [e1] at hn
    have hl : hs.length ≤ 5 := by
      have := congrArg List.length e1
      rw [List.length_append] at this
      have : HS.length = 5 := rfl
      omega
    have xn : x ∉ hs := fun m => (List.nodup_append.mp hn).2.2 x m x List.mem_cons_self rfl
    refine s_exp' (x_meth (x_var rfl ⟨isI_at (fs := rf need) rfl rfl, x_cons (x_var rfl (x_nil (SatX.sat (add_k (rqH e1) (fun z => absurd z xn) (fun _ z => by omega) fun _ _ => ?_))))⟩))
    exact ⟨hs ++ [x], ys', _, by rw [e1]; simp, by rw [List.map_append]; rfl, rfl, rfl⟩
  · rintro e h' ⟨hs, ys, a, e1, e2, rfl, rfl⟩
    have e2 : HS.map D.str = hs.map D.str := e2
    have : ys = [] := by
      have a := congrArg List.length e2
      have b := congrArg List.length e1
      rw [List.length_map, List.length_map] at a
      rw [List.length_append] at b
      exact List.eq_nil_of_length_eq_zero (by omega)
    subst this
    rw [List.append_nil] at e1
    subst e1
    dsimp only
    refine s_ret' (x_var rfl ?_)
    exact p
end
end Vi

set_option Elab.async false
set_option linter.all false
set_option autoImplicit false
set_option maxRecDepth 100000
set_option maxHeartbeats 2000000
namespace Vi
open PySem PySem.Spec PyProof.Rows L2
open scoped Classical
local macro_rules | `(tactic| walk_at "x1") => `(tactic| with_reducible first
  | refine x_bin ?_ | refine x_tst ?_ | refine x_oB ?_ | refine x_c ?_ | refine s_seqA ?_ | refine s_seqU ?_ | refine s_seqE ?_ | refine s_seqN ?_ | refine s_seqD ?_ | refine s_seqF ?_ | refine s_seqL ?_ | refine s_asg' ?_ | refine s_if' ?_ | refine s_ret' ?_ | refine s_exp' ?_ | refine s_next ?_ | refine s_retN' ?_ | refine s_sub' ?_ | refine s_dsub' ?_ | refine s_setF' ?_ | refine s_ddel' ?_
  | refine x_cb ?_ | refine x_cons ?_ | refine x_nil ?_ | refine x_call ?_ | refine x_met ?_ | refine x_meth ?_ | refine x_make ?_ | refine x_fld ?_ | refine x_un ?_ | refine x_notT ?_ | refine x_andT ?_ | refine x_orT ?_ | refine x_and ?_ | refine x_or ?_ | refine x_not ?_ | refine x_if ?_
  | refine x_tup ?_ | refine x_lst ?_ | refine x_cel ?_ | refine x_dnew ?_ | refine x_sortIt ?_ | refine x_sl ?_ | refine x_noP ?_ | refine x_part ?_ | refine x_oI ?_ | refine x_mI ?_ | refine x_rng ?_ | refine x_yes ?_ | refine x_chn ?_ | refine x_fun ?_ | refine x_ok ?_)
local macro_rules | `(tactic| walk_at "x2") => `(tactic| first
  | ((with_reducible refine y_var ?_); refine ⟨_, rfl, ?_⟩)
  | ((with_reducible refine y_some ?_); refine ⟨_, rfl, ?_⟩)
  | ((with_reducible refine y_gP ?_); refine ⟨_, rfl, ?_⟩))
local macro_rules | `(tactic| walk_at "x") => `(tactic| repeat (first | walk_at "x1" | walk_at "x2" ))
local macro_rules | `(tactic| walk_at "nx") => `(tactic| (refine next_k (by assumption) (by assumption) (by first | decide | omega) (by first | decide | omega) ?_))
noncomputable def tb32_10 : MS := (mIfS (mAndT (mTst (mBin dEq (mBin dMod (mVar 11) (mC (.int 8))) (mC (.int 0)))) (mNotT (mTst (mCall Mi.m_law_told_6 (mCons (mVar 3) (mCons (mVar 5) (mCons (mVar 7) (mCons (mVar 8) (mCons (mVar 4) mNil))))))))) (mRet (mC (.bl false))) mNext)
noncomputable def tb32_9 : MS := (mSeq (mIfS (mNotT (mTst (mCall Mi.m_law_same (mCons (mMeth "Roster" "tell" Mi.m_Roster_tell (mVar 3) (mCons (mVar 12) (mCons (mVar 13) (mCons (mVar 14) (mCons (mVar 16) mNil))))) (mCons (mVar 17) mNil))))) (mRet (mC (.bl false))) mNext)
    tb32_10)
noncomputable def tb32_8 : MS := (mSeq (mIfS (mAndT (mTst (mBin dInD (mTup (mCons (mVar 16) (mCons (mVar 13) (mCons (mVar 12) (mCons (mVar 14) mNil))))) (mVar 10))) (mTst (mBin dNotIn (mVar 13) (mVar 9)))) (mAsg (mCall Mi.m_law_due_6 (mCons (mVar 5) (mCons (mVar 7) (mCons (mVar 8) (mCons (mVar 9) (mCons (mVar 2) (mCons (mTup (mCons (mVar 12) (mCons (mVar 13) (mCons (mVar 14) (mCons (mVar 16) mNil))))) mNil))))))) (gNm 17)) mNext)
    tb32_9)
noncomputable def tb32_7 : MS := (mSeq (mAsg (mC (.str "bad")) (gNm 17))
    tb32_8)
noncomputable def tb32_6 : MS := (mSeq (mIfS (mAndT (mTst (mBin dLt (mVar 15) (mC (.int 3)))) (mTst (mBin dGt (mCB dLen (mCons (mVar 10) mNil)) (mC (.int 0))))) (mAsg (mBin dIx (mBin dIx (mVar 10) (mCall Mi.m_law_next (mCons (mVar 1) (mCons (mVar 0) (mCons (mCB dLen (mCons (mVar 10) mNil)) mNil))))) (mC (.int 0))) (gNm 16)) (mIfS (mTst (mBin dEq (mVar 15) (mC (.int 3)))) (mAsg (mBin dIx (mLst (mCons (mBin dAdd (mBin dAdd (mVar 13) (mC (.str "-"))) (mCB dStr (mCons (mBin dAdd (mCB dLen (mCons (mVar 10) mNil)) (mC (.int 2))) mNil))) (mCons (mC (.str "")) (mCons (mC (.str "x")) (mCons (mBin dAdd (mVar 13) (mC (.str "-01"))) (mCons (mVar 13) (mCons (mBin dAdd (mVar 13) (mC (.str "-0"))) mNil))))))) (mCall Mi.m_law_next (mCons (mVar 1) (mCons (mVar 0) (mCons (mC (.int 6)) mNil))))) (gNm 16)) (mIfS (mTst (mBin dNotIn (mVar 13) (mVar 9))) (mSeq (mAsg (mMeth "Roster" "sign" Mi.m_Roster_sign (mVar 3) (mCons (mVar 13) (mCons (mCall Mi.m_law_words_of (mCons (mVar 12) (mCons (mVar 14) mNil))) mNil))) (gNm 16))
    (mSeq (mExp (mMet "list" gAppend (mVar 10) (mCons (mTup (mCons (mVar 16) (mCons (mVar 13) (mCons (mVar 12) (mCons (mVar 14) mNil))))) mNil)))
    (mIfS (mNotT (mTst (mCall Mi.m_law_same (mCons (mVar 16) (mCons (mBin dAdd (mBin dAdd (mVar 13) (mC (.str "-"))) (mCB dStr (mCons (mCB dLen (mCons (mVar 10) mNil)) mNil))) mNil))))) (mRet (mC (.bl false))) mNext))) mNext)))
    tb32_7)
noncomputable def tb32_5 : MS := (mSeq (mAsg (mC (.str "h0-1")) (gNm 16))
    tb32_6)
noncomputable def tb32_4 : MS := (mSeq (mIfS (mAndT (mTst (mBin dEq (mVar 15) (mC (.int 0)))) (mTst (mBin dNotIn (mVar 13) (mVar 9)))) (mSeq (mExp (mMeth "Roster" "revoke" Mi.m_Roster_revoke (mVar 3) (mCons (mVar 13) mNil)))
    (mExp (mMet "list" gAppend (mVar 9) (mCons (mVar 13) mNil)))) mNext)
    tb32_5)
noncomputable def tb32_3 : MS := (mSeq (mAsg (mCall Mi.m_law_next (mCons (mVar 1) (mCons (mVar 0) (mCons (mC (.int 12)) mNil)))) (gNm 15))
    tb32_4)
noncomputable def tb32_2 : MS := (mSeq (mAsg (mBin dIx (mLst (mCons (mC (.str "x")) (mCons (mC (.str "y")) (mCons (mC (.str "")) mNil)))) (mCall Mi.m_law_next (mCons (mVar 1) (mCons (mVar 0) (mCons (mC (.int 3)) mNil))))) (gNm 14))
    tb32_3)
noncomputable def tb32_1 : MS := (mSeq (mAsg (mBin dIx (mVar 4) (mCall Mi.m_law_next (mCons (mVar 1) (mCons (mVar 0) (mCons (mC (.int 5)) mNil))))) (gNm 13))
    tb32_2)
noncomputable def tb32_0 : MS := (mSeq (mAsg (mBin dIx (mVar 6) (mCall Mi.m_law_next (mCons (mVar 1) (mCons (mVar 0) (mCons (mC (.int 3)) mNil))))) (gNm 12))
    tb32_1)
abbrev e32 (ns : List Int) (need : Int) (n : Nat) (x12 x13 x14 x15 x16 x17 : Option D) : Env := [some (scr ns), some (.ref 0), some (.int need), some (.ref 1), some (.lst (HS.map .str)), some (.ref 7), some (.lst (T3.map .str)), some (.ref 11), some (.ref 12), some (.ref 13), some (.ref 14), some (.int (n : Nat)), x12, x13, x14, x15, x16, x17]
theorem gq9 {i : Nat} {xs : List D} {h : Hap} (e : h[i]? = some (.lst xs)) : getQ (.ref i) h = some xs := by simp [getQ, getL, e]
theorem qd_at {L : List Qd} {r : Int} (h0 : 0 ≤ r) (h1 : r < L.length) : ∃ y, y ∈ L ∧ atI (L.map qdD) r = some (qdD y) := by
  have hl : r.toNat < L.length := by omega
  refine ⟨L[r.toNat], List.getElem_mem hl, ?_⟩
  unfold atI ixN
  rw [if_pos h0, if_pos (by rw [List.length_map]; exact h1)]
  simp [hl]
section
variable {need : Int} {rv : List Str} {sg : List Qd} {vo : Str → List Sg} {cl : List (Str × Str)} {st : List Str} {ix : List (Str × Nat)} {t t' h : Hap} {P : D → Hap → Prop} {E : EX} {to ho c m x : Str} {env : Env} {Q : Ps} {ns : List Int} {n : Nat} {x12 x13 x14 x15 x16 x17 : Option D}
theorem Bd.okq (B : Bd rv sg vo cl st) : ∀ q ∈ sg, okq q := fun q mq => by
  have a := B.R.so _ (List.mem_map.mpr ⟨q, mq, rfl⟩)
  have b := B.sq q mq
  exact ⟨a.1, a.2.1, (okS_T b.1).1, (okS_C b.2).1⟩
theorem tb10_k (B : Bd rv sg vo cl st) (W : Vw need rv sg vo cl st ix t) (T : Tb rv sg vo cl st t) (s : St t h)
    (q : ∀ t' h', St t' h' → Vw need rv sg vo cl st ix t' → Tb rv sg vo cl st t' → Q.n (e32 ns need n x12 x13 x14 x15 x16 x17) h') : SatS (tb32_10 (e32 ns need n x12 x13 x14 x15 x16 x17) h) Q := by
  unfold tb32_10
  refine s_if' (x_andT (x_tst (x_bin (x_bin (x_var rfl (x_c (v_mod (by decide) (x_c (x_some (d := .bl (decide (((n : Int)).fmod 8 = 0))) rfl (x_oB ⟨fun _ => ?_, fun _ => ⟨fun z => (nomatch z), fun _ => s_next (q t h s W T)⟩⟩))))))))))
  exact x_notT (x_tst (x_call (x_cons (x_var rfl (x_cons (x_var rfl (x_cons (x_var rfl (x_cons (x_var rfl (x_cons (x_var rfl (x_nil (told6_k B W T s fun t' h' s' W' T' => x_oB ⟨fun z => (nomatch z), fun _ => s_next (q t' h' s' W' T')⟩))))))))))))))
theorem tb9_bad (B : Bd rv sg vo cl st) (W : Vw need rv sg vo cl st ix t) (T : Tb rv sg vo cl st t) (s : St t h) (mt : to ∈ T3) (mh : ho ∈ HS) (mc : c ∈ C3) (no : (decide ((m, ho, to, c) ∈ sg) && !decide (ho ∈ rv)) = false)
    (q : ∀ t' h' x12 x13 x14 x15 x16 x17, St t' h' → Vw need rv sg vo cl st ix t' → Tb rv sg vo cl st t' → Q.n (e32 ns need n x12 x13 x14 x15 x16 x17) h') : SatS (tb32_9 (e32 ns need n (some (.str to)) (some (.str ho)) (some (.str c)) x15 (some (.str m)) (some (.str "bad"))) h) Q := by
  unfold tb32_9
  refine s_seq (s_if' (x_notT (x_tst (x_call (x_cons (x_meth (x_var rfl ⟨isI_at (W.hi s) rfl, x_cons (x_var rfl (x_cons (x_var rfl (x_cons (x_var rfl (x_cons (x_var rfl (x_nil (tell_bad B W s mt mh mc no (x_cons (x_var rfl (x_nil (same9 (by simp [D.sz]) (by simp [D.pl]) (x_oB ⟨fun z => (nomatch z), fun _ => s_next ?_⟩))))))))))))))⟩)))))))
  exact tb10_k B W T s fun t' h' s' W' T' => q t' h' _ _ _ _ _ _ s' W' T'
theorem tb9_due (B : Bd rv sg vo cl st) (W : Vw need rv sg vo cl st ix t) (T : Tb rv sg (dueV need rv to ho c m vo cl st).2.1 (dueV need rv to ho c m vo cl st).2.2.1 (dueV need rv to ho c m vo cl st).2.2.2 t) (s : St t h) (mt : to ∈ T3) (mh : ho ∈ HS) (mc : c ∈ C3) (om : okS m) (hc : (decide ((m, ho, to, c) ∈ sg) && !decide (ho ∈ rv)) = true) (sl : st.length + 6 ≤ 1000)
    (q : ∀ vo' cl' st' ix' t' h' x12 x13 x14 x15 x16 x17, St t' h' → Vw need rv sg vo' cl' st' ix' t' → Tb rv sg vo' cl' st' t' → Bd rv sg vo' cl' st' → st'.length ≤ st.length + 6 → Q.n (e32 ns need n x12 x13 x14 x15 x16 x17) h') :
    SatS (tb32_9 (e32 ns need n (some (.str to)) (some (.str ho)) (some (.str c)) x15 (some (.str m)) (some (.str (dueV need rv to ho c m vo cl st).1))) h) Q := by
  unfold tb32_9
  have bd := B.due (need := need) mt mh mc om sl
  refine s_seq (s_if' (x_notT (x_tst (x_call (x_cons (x_meth (x_var rfl ⟨isI_at (W.hi s) rfl, x_cons (x_var rfl (x_cons (x_var rfl (x_cons (x_var rfl (x_cons (x_var rfl (x_nil (tell_k B W s mt mh mc om hc fun ix' t' h' s' W' F' => x_cons (x_var rfl (x_nil (same9 (by simp [D.sz]) (by simp [D.pl]) (x_oB ⟨fun z => (nomatch z), fun _ => s_next ?_⟩)))))))))))))⟩)))))))
  exact tb10_k bd.1 W' (T.fr F') s' fun t' h' s' W' T' => q _ _ _ _ t' h' _ _ _ _ _ _ s' W' T' bd.1 bd.2
theorem tb7_k (B : Bd rv sg vo cl st) (W : Vw need rv sg vo cl st ix t) (T : Tb rv sg vo cl st t) (s : St t h) (mt : to ∈ T3) (mh : ho ∈ HS) (mc : c ∈ C3) (om : okS m) (sl : st.length + 6 ≤ 1000)
    (q : ∀ vo' cl' st' ix' t' h' x12 x13 x14 x15 x16 x17, St t' h' → Vw need rv sg vo' cl' st' ix' t' → Tb rv sg vo' cl' st' t' → Bd rv sg vo' cl' st' → st'.length ≤ st.length + 6 → Q.n (e32 ns need n x12 x13 x14 x15 x16 x17) h') :
    SatS (tb32_7 (e32 ns need n (some (.str to)) (some (.str ho)) (some (.str c)) x15 (some (.str m)) x17) h) Q := by
  unfold tb32_7
  refine s_seq (s_asg' (x_c ?_))
  dsimp only
  unfold tb32_8
  have h14 := (s.at9 13).trans T.gg
  have h13 := (s.at9 12).trans T.rr
  have qb : ∀ no : (decide ((m, ho, to, c) ∈ sg) && !decide (ho ∈ rv)) = false, SatS (tb32_9 (e32 ns need n (some (.str to)) (some (.str ho)) (some (.str c)) x15 (some (.str m)) (some (.str "bad"))) h) Q := fun no => tb9_bad B W T s mt mh mc no fun t' h' _ _ _ _ _ _ s' W' T' => q _ _ _ _ t' h' _ _ _ _ _ _ s' W' T' B (Nat.le_add_right _ _)
  refine s_seq (s_if' (x_andT (x_tst (x_bin (x_tup (x_cons (x_var rfl (x_cons (x_var rfl (x_cons (x_var rfl (x_cons (x_var rfl (x_nil ⟨sl_le (show 4 ≤ 16777216 by decide), x_var rfl (x_some (in_qds (p := (m, ho, to, c)) h14 B.okq ⟨om, (okS_H mh).1, (okS_T mt).1, (okS_C mc).1⟩) (x_oB ⟨fun e => ?_, fun e => ⟨fun z => (nomatch z), fun _ => s_next (qb (by rw [e]; rfl))⟩⟩))⟩))))))))))))))
  refine x_tst (x_bin (x_var rfl (x_var rfl (x_some (d := .bl (!decide (ho ∈ rv))) (by unfold dNotIn; rw [in_ref h13]; rfl) (x_oB ⟨fun e2 => ?_, fun e2 => s_next (qb (by rw [e, e2]; rfl))⟩)))))
  refine s_asg' (x_call (x_cons (x_var rfl (x_cons (x_var rfl (x_cons (x_var rfl (x_cons (x_var rfl (x_cons (x_var rfl (x_cons (x_tup (x_cons (x_var rfl (x_cons (x_var rfl (x_cons (x_var rfl (x_cons (x_var rfl (x_nil ⟨sl_le (show 4 ≤ 16777216 by decide), x_nil (due6_k B T s mt mh fun t' h' s' T' F' => ?_)⟩))))))))))))))))))))))
  exact tb9_due B (W.fl F') T' s' mt mh mc om (by rw [e, e2]; rfl) sl q
end
end Vi

set_option Elab.async false
set_option linter.all false
set_option autoImplicit false
set_option maxRecDepth 100000
set_option maxHeartbeats 2000000
namespace Vi
open PySem PySem.Spec PyProof.Rows L2
open scoped Classical
local macro_rules | `(tactic| walk_at "x1") => `(tactic| with_reducible first
  | refine x_bin ?_ | refine x_tst ?_ | refine x_oB ?_ | refine x_c ?_ | refine s_seqA ?_ | refine s_seqU ?_ | refine s_seqE ?_ | refine s_seqN ?_ | refine s_seqD ?_ | refine s_seqF ?_ | refine s_seqL ?_ | refine s_asg' ?_ | refine s_if' ?_ | refine s_ret' ?_ | refine s_exp' ?_ | refine s_next ?_ | refine s_retN' ?_ | refine s_sub' ?_ | refine s_dsub' ?_ | refine s_setF' ?_ | refine s_ddel' ?_
  | refine x_cb ?_ | refine x_cons ?_ | refine x_nil ?_ | refine x_call ?_ | refine x_met ?_ | refine x_meth ?_ | refine x_make ?_ | refine x_fld ?_ | refine x_un ?_ | refine x_notT ?_ | refine x_andT ?_ | refine x_orT ?_ | refine x_and ?_ | refine x_or ?_ | refine x_not ?_ | refine x_if ?_
  | refine x_tup ?_ | refine x_lst ?_ | refine x_cel ?_ | refine x_dnew ?_ | refine x_sortIt ?_ | refine x_sl ?_ | refine x_noP ?_ | refine x_part ?_ | refine x_oI ?_ | refine x_mI ?_ | refine x_rng ?_ | refine x_yes ?_ | refine x_chn ?_ | refine x_fun ?_ | refine x_ok ?_)
local macro_rules | `(tactic| walk_at "x2") => `(tactic| first
  | ((with_reducible refine y_var ?_); refine ⟨_, rfl, ?_⟩)
  | ((with_reducible refine y_some ?_); refine ⟨_, rfl, ?_⟩)
  | ((with_reducible refine y_gP ?_); refine ⟨_, rfl, ?_⟩))
local macro_rules | `(tactic| walk_at "x") => `(tactic| repeat (first | walk_at "x1" | walk_at "x2" ))
local macro_rules | `(tactic| walk_at "nx") => `(tactic| (refine next_k (by assumption) (by assumption) (by first | decide | omega) (by first | decide | omega) ?_))
section
variable {need : Int} {rv : List Str} {sg : List Qd} {vo : Str → List Sg} {cl : List (Str × Str)} {st : List Str} {ix : List (Str × Nat)} {t t' h : Hap} {P : D → Hap → Prop} {E : EX} {to ho c m x : Str} {env : Env} {Q : Ps} {ns : List Int} {n : Nat} {x12 x13 x14 x15 x16 x17 : Option D}
theorem ds_ok : okS DS ∧ okS ("-01" : Str) ∧ okS ("-0" : Str) ∧ okS ("x" : Str) ∧ okS ("" : Str) ∧ okS ("h0-1" : Str) ∧ DS.length = 1 ∧ ("-01" : Str).length = 3 ∧ ("-0" : Str).length = 2 := by
  refine ⟨?_, ?_, ?_, ?_, ?_, ?_, by decide, by decide, by decide⟩ <;> exact okS_iff.mpr (by decide +kernel)
abbrev six (ho : Str) (k : Nat) : List Str := [ho ++ DS ++ nmS ((k : Nat) : Int), "", "x", ho ++ "-01", ho, ho ++ "-0"]
theorem six_ok {k : Nat} (mh : ho ∈ HS) (hk : k < 100000) : ∀ y ∈ six ho k, okS y := by
  have oh := (okS_H mh).1
  obtain ⟨a1, a2, a3, a4, a5, _⟩ := ds_ok
  intro y my
  simp only [List.mem_cons, List.not_mem_nil, or_false] at my
  rcases my with rfl | rfl | rfl | rfl | rfl | rfl
  · exact okS_app (okS_app oh a1) (nm_small hk).2.2.1
  · exact a5
  · exact a4
  · exact okS_app oh a2
  · exact oh
  · exact okS_app oh a3
theorem tb5_k {w : Int} (hn : ns.length ≤ 63) (B : Bd rv sg vo cl st) (W : Vw need rv sg vo cl st ix t) (T : Tb rv sg vo cl st t) (s : St t h) (mt : to ∈ T3) (mh : ho ∈ HS) (mc : c ∈ C3) (sl : st.length + 6 ≤ 1000) (rl : rv.length < 200) (gl : sg.length < 199)
    (q : ∀ sg' vo' cl' st' ix' t' h' x12 x13 x14 x15 x16 x17, St t' h' → Vw need rv sg' vo' cl' st' ix' t' → Tb rv sg' vo' cl' st' t' → Bd rv sg' vo' cl' st' → st'.length ≤ st.length + 6 → sg'.length ≤ sg.length + 1 → Q.n (e32 ns need n x12 x13 x14 x15 x16 x17) h') :
    SatS (tb32_5 (e32 ns need n (some (.str to)) (some (.str ho)) (some (.str c)) (some (.int w)) x16 x17) h) Q := by
  unfold tb32_5
  refine s_seq (s_asg' (x_c ?_))
  dsimp only
  unfold tb32_6
  have h14 := (s.at9 13).trans T.gg
  have h13 := (s.at9 12).trans T.rr
  have oh := okS_H mh
  obtain ⟨a1, a2, a3, a4, a5, a6, l1, l2, l3⟩ := ds_ok
  have fin : ∀ (m : Str) (t' h' : Hap), okS m → St t' h' → Vw need rv sg vo cl st ix t' → Tb rv sg vo cl st t' → SatS (tb32_7 (e32 ns need n (some (.str to)) (some (.str ho)) (some (.str c)) (some (.int w)) (some (.str m)) x17) h') Q := fun m t' h' om s' W' T' =>
    tb7_k B W' T' s' mt mh mc om sl fun vo' cl' st' ix' t2 h2 _ _ _ _ _ _ s2 W2 T2 B2 l2 => q sg vo' cl' st' ix' t2 h2 _ _ _ _ _ _ s2 W2 T2 B2 l2 (Nat.le_add_right _ _)
  have rest : SatS (mIfS (mTst (mBin dEq (mVar 15) (mC (.int 3)))) (mAsg (mBin dIx (mLst (mCons (mBin dAdd (mBin dAdd (mVar 13) (mC (.str "-"))) (mCB dStr (mCons (mBin dAdd (mCB dLen (mCons (mVar 10) mNil)) (mC (.int 2))) mNil))) (mCons (mC (.str "")) (mCons (mC (.str "x")) (mCons (mBin dAdd (mVar 13) (mC (.str "-01"))) (mCons (mVar 13) (mCons (mBin dAdd (mVar 13) (mC (.str "-0"))) mNil))))))) (mCall Mi.m_law_next (mCons (mVar 1) (mCons (mVar 0) (mCons (mC (.int 6)) mNil))))) (gNm 16)) (mIfS (mTst (mBin dNotIn (mVar 13) (mVar 9))) (mSeq (mAsg (mMeth "Roster" "sign" Mi.m_Roster_sign (mVar 3) (mCons (mVar 13) (mCons (mCall Mi.m_law_words_of (mCons (mVar 12) (mCons (mVar 14) mNil))) mNil))) (gNm 16))
    (mSeq (mExp (mMet "list" gAppend (mVar 10) (mCons (mTup (mCons (mVar 16) (mCons (mVar 13) (mCons (mVar 12) (mCons (mVar 14) mNil))))) mNil)))
    (mIfS (mNotT (mTst (mCall Mi.m_law_same (mCons (mVar 16) (mCons (mBin dAdd (mBin dAdd (mVar 13) (mC (.str "-"))) (mCB dStr (mCons (mCB dLen (mCons (mVar 10) mNil)) mNil))) mNil))))) (mRet (mC (.bl false))) mNext))) mNext) (e32 ns need n (some (.str to)) (some (.str ho)) (some (.str c)) (some (.int w)) (some (.str "h0-1")) x17) h) ⟨fun e h1 => SatS (tb32_7 e h1) Q, Q.r, Q.b, Q.c⟩ := by
    refine s_if' (x_tst (x_bin (x_var rfl (x_c (x_some (d := .bl (decide (w = 3))) rfl (x_oB ⟨fun _ => ?_, fun _ => ?_⟩))))))
    · have q2 := nm_small (m := sg.length + 2) (by omega)
      refine s_asg' (x_bin (x_lst (x_cons (x_bin (x_bin (x_var rfl (x_c (v_adds (y := DS) (sl_le (by rw [l1]; omega)) (x_cb (x_cons (x_bin (x_cb (x_cons (x_var rfl (x_nil (v_lenQ (gq9 h14) (fun z => by simp) ?_))))))))))))))))
      rw [List.length_map]
      refine x_c (x_some (d := .int ((sg.length + 2 : Nat) : Int)) rfl (x_nil (x_some (d := .str (nmS ((sg.length + 2 : Nat) : Int))) (if_pos q2.1) (v_adds (sl_le (by rw [len_app, l1]; have := q2.2.1; omega)) ?_))))
      refine x_cons (x_c (x_cons (x_c (x_cons (x_bin (x_var rfl (x_c (v_adds (y := "-01") (sl_le (by rw [l2]; omega)) (x_cons (x_var rfl (x_cons (x_bin (x_var rfl (x_c (v_adds (y := "-0") (sl_le (by rw [l3]; omega)) (x_nil ⟨sl_le (show 6 ≤ 16777216 by decide), ?_⟩))))))))))))))))
      refine x_call (x_cons (x_var rfl (x_cons (x_var rfl (x_cons (x_c (x_nil (next_k s hn (by decide) (by decide) fun r h' r0 r1 s' => ?_))))))))
      obtain ⟨y, -, my, ey⟩ := str_at' (L := six ho (sg.length + 2)) r0 r1
      refine v_ixR (xs := (six ho (sg.length + 2)).map .str) rfl ey ?_
      exact fin y t h' (six_ok mh (by omega) y my) s' W T
    · refine s_if' (x_tst (x_bin (x_var rfl (x_var rfl (x_some (d := .bl (!decide (ho ∈ rv))) (by unfold dNotIn; rw [in_ref h13]; rfl) (x_oB ⟨fun e => ?_, fun _ => s_next (fin _ t h a6 s W T)⟩))))))
      have nr : ho ∉ rv := by simpa using e
      have q2 := nm_small (m := sg.length + 1) (by omega)
      refine s_seq (s_asg' (x_meth (x_var rfl ⟨isI_at (W.hi s) rfl, x_cons (x_var rfl (x_cons (x_call (x_cons (x_var rfl (x_cons (x_var rfl (x_nil (law_words_of_k (okS_T mt).2 (okS_C mc).2 (x_nil ?_))))))))))⟩)))
      refine sign_v (tx := wd to c) (W.hi s) (W.h2 s) (W.h4 s) B.R mh nr ?_
      rw [List.length_map]
      have B1 := B.sign mt mh mc nr rl (by omega)
      have W1 := W.sign (sg ++ [(Vi.mk ho (sg.length + 1), ho, to, c)])
      have T1 : Tb rv sg vo cl st (t.set 3 (.dct (((sg ++ [(Vi.mk ho (sg.length + 1), ho, to, c)]).map qs).map sgK))) := T.fr (Fr.set (.inl (by decide)))
      have s1 := s.set9 3 (.dct (((sg ++ [(Vi.mk ho (sg.length + 1), ho, to, c)]).map qs).map sgK))
      have e4 : sg.map qs ++ [(Vi.mk ho (sg.length + 1), ho, wd to c)] = (sg ++ [(Vi.mk ho (sg.length + 1), ho, to, c)]).map qs := by rw [List.map_append]; rfl
      rw [e4]
      have g14 := (s1.at9 13).trans T1.gg
      have T2 := T1.sign (sg ++ [(Vi.mk ho (sg.length + 1), ho, to, c)])
      have s2 := s1.set9 13 (.lst ((sg ++ [(Vi.mk ho (sg.length + 1), ho, to, c)]).map qdD))
      have W2 := W1.fl (Fl.set (t := t.set 3 (.dct (((sg ++ [(Vi.mk ho (sg.length + 1), ho, to, c)]).map qs).map sgK))) (i := 13) (c := .lst ((sg ++ [(Vi.mk ho (sg.length + 1), ho, to, c)]).map qdD)) (by decide) (by decide))
      clear s1 T1 W1 h14 h13
      generalize t.set 3 (.dct (((sg ++ [(Vi.mk ho (sg.length + 1), ho, to, c)]).map qs).map sgK)) = t1 at *
      generalize h.set (3 + 1) (.dct (((sg ++ [(Vi.mk ho (sg.length + 1), ho, to, c)]).map qs).map sgK)) = h1 at *
      dsimp only
      refine s_seq (s_exp' (x_app9 (y := qdD (Vi.mk ho (sg.length + 1), ho, to, c)) (fun P p => x_var rfl p) (fun P p => x_tup (x_cons (x_var rfl (x_cons (x_var rfl (x_cons (x_var rfl (x_cons (x_var rfl (x_nil ⟨sl_le (show 4 ≤ 16777216 by decide), p⟩)))))))))) g14 (by rw [List.length_map]; omega) ?_))
      have e5 : sg.map qdD ++ [qdD (Vi.mk ho (sg.length + 1), ho, to, c)] = (sg ++ [(Vi.mk ho (sg.length + 1), ho, to, c)]).map qdD := by rw [List.map_append]; rfl
      rw [e5]
      have k14 := (s2.at9 13).trans T2.gg
      refine s_if' (x_notT (x_tst (x_call (x_cons (x_var rfl (x_cons (x_bin (x_bin (x_var rfl (x_c (v_adds (y := DS) (sl_le (by rw [l1]; omega)) (x_cb (x_cons (x_cb (x_cons (x_var rfl (x_nil (v_lenQ (gq9 k14) (fun z => by simp) ?_))))))))))))))))))
      rw [List.length_map, List.length_append, List.length_singleton]
      refine x_nil (x_some (d := .str (nmS ((sg.length + 1 : Nat) : Int))) (if_pos q2.1) (v_adds (sl_le (by rw [len_app, l1]; have := q2.2.1; omega)) (x_nil (same9 (d := .str (Vi.mk ho (sg.length + 1))) (by simp [D.sz]) (by simp [D.pl]) (x_oB ⟨fun z => (nomatch z), fun _ => s_next ?_⟩)))))
      exact tb7_k B1 W2 T2 s2 mt mh mc (okS_mk oh.1 (by omega)) sl fun vo' cl' st' ix' t2 h2 _ _ _ _ _ _ s2 W2 T2 B2 l2 => q _ vo' cl' st' ix' t2 h2 _ _ _ _ _ _ s2 W2 T2 B2 l2 (by rw [List.length_append, List.length_singleton]; omega)
  refine s_seq (s_if' (x_andT (x_tst (x_bin (x_var rfl (x_c (x_some (d := .bl (decide (w < 3))) rfl (x_oB ⟨fun _ => ?_, fun _ => ⟨fun z => (nomatch z), fun _ => rest⟩⟩))))))))
  refine x_tst (x_bin (x_cb (x_cons (x_var rfl (x_nil (v_lenQ (gq9 h14) (fun z => by simp) ?_))))))
  rw [List.length_map]
  refine x_c (x_some (d := .bl (decide ((0 : Int) < (sg.length : Nat)))) rfl (x_oB ⟨fun e => ?_, fun _ => rest⟩))
  have e : (0 : Int) < (sg.length : Nat) := of_decide_eq_true e
  refine s_asg' (x_bin (x_bin (x_var rfl (x_call (x_cons (x_var rfl (x_cons (x_var rfl (x_cons (x_cb (x_cons (x_var rfl (x_nil (v_lenQ (gq9 h14) (fun z => by simp) ?_))))))))))))))
  rw [List.length_map]
  refine x_nil (next_k s hn e (by omega) fun r h' r0 r1 s' => ?_)
  obtain ⟨y, my, ey⟩ := qd_at (L := sg) r0 r1
  refine v_ixR (gq9 ((s'.at9 13).trans T.gg)) ey ?_
  refine x_c (x_some (d := .str y.1) rfl ?_)
  exact fin y.1 t h' (B.okq y my).1 s' W T
theorem tb4_k {w : Int} (hn : ns.length ≤ 63) (B : Bd rv sg vo cl st) (W : Vw need rv sg vo cl st ix t) (T : Tb rv sg vo cl st t) (s : St t h) (mt : to ∈ T3) (mh : ho ∈ HS) (mc : c ∈ C3) (sl : st.length + 6 ≤ 1000) (rl : rv.length < 199) (gl : sg.length < 199)
    (q : ∀ rv' sg' vo' cl' st' ix' t' h' x12 x13 x14 x15 x16 x17, St t' h' → Vw need rv' sg' vo' cl' st' ix' t' → Tb rv' sg' vo' cl' st' t' → Bd rv' sg' vo' cl' st' → st'.length ≤ st.length + 6 → sg'.length ≤ sg.length + 1 → rv'.length ≤ rv.length + 1 → Q.n (e32 ns need n x12 x13 x14 x15 x16 x17) h') :
    SatS (tb32_4 (e32 ns need n (some (.str to)) (some (.str ho)) (some (.str c)) (some (.int w)) x16 x17) h) Q := by
  unfold tb32_4
  have h13 := (s.at9 12).trans T.rr
  have fin : SatS (tb32_5 (e32 ns need n (some (.str to)) (some (.str ho)) (some (.str c)) (some (.int w)) x16 x17) h) Q := tb5_k hn B W T s mt mh mc sl (by omega) gl fun sg' vo' cl' st' ix' t' h' _ _ _ _ _ _ s' W' T' B' l1 l2 => q rv sg' vo' cl' st' ix' t' h' _ _ _ _ _ _ s' W' T' B' l1 l2 (Nat.le_add_right _ _)
  refine s_seq (s_if' (x_andT (x_tst (x_bin (x_var rfl (x_c (x_some (d := .bl (decide (w = 0))) rfl (x_oB ⟨fun _ => ?_, fun _ => ⟨fun z => (nomatch z), fun _ => s_next fin⟩⟩))))))))
  refine x_tst (x_bin (x_var rfl (x_var rfl (x_some (d := .bl (!decide (ho ∈ rv))) (by unfold dNotIn; rw [in_ref h13]; rfl) (x_oB ⟨fun e => ?_, fun _ => s_next fin⟩)))))
  have nr : ho ∉ rv := by simpa using e
  refine s_seq (s_exp' (x_meth (x_var rfl ⟨isI_at (W.hi s) rfl, x_cons (x_var rfl (x_nil (revoke_v (W.hi s) (W.h2 s) mh nr ?_)))⟩)))
  have B1 := B.revoke mh nr (by omega) (by omega)
  have W1 := W.revoke (rv ++ [ho])
  have T1 : Tb rv sg vo cl st (t.set 1 (.dct (hrD (rv ++ [ho])))) := T.fr (Fr.set (.inl (by decide)))
  have s1 := s.set9 1 (.dct (hrD (rv ++ [ho])))
  have g13 := (s1.at9 12).trans T1.rr
  have T2 := T1.revoke (rv ++ [ho])
  have s2 := s1.set9 12 (.lst ((rv ++ [ho]).map .str))
  have W2 := W1.fl (Fl.set (t := t.set 1 (.dct (hrD (rv ++ [ho])))) (i := 12) (c := .lst ((rv ++ [ho]).map .str)) (by decide) (by decide))
  refine s_exp' (x_app9 (y := .str ho) (fun P p => x_var rfl p) (fun P p => x_var rfl p) g13 (by rw [List.length_map]; omega) ?_)
  have e5 : rv.map D.str ++ [D.str ho] = (rv ++ [ho]).map D.str := by rw [List.map_append]; rfl
  rw [e5]
  exact tb5_k hn B1 W2 T2 s2 mt mh mc sl (by rw [List.length_append, List.length_singleton]; omega) gl fun sg' vo' cl' st' ix' t' h' _ _ _ _ _ _ s' W' T' B' l1 l2 => q (rv ++ [ho]) sg' vo' cl' st' ix' t' h' _ _ _ _ _ _ s' W' T' B' l1 l2 (by rw [List.length_append, List.length_singleton]; omega)
theorem tb0_k (hn : ns.length ≤ 63) (B : Bd rv sg vo cl st) (W : Vw need rv sg vo cl st ix t) (T : Tb rv sg vo cl st t) (s : St t h) (sl : st.length + 6 ≤ 1000) (rl : rv.length < 199) (gl : sg.length < 199)
    (q : ∀ rv' sg' vo' cl' st' ix' t' h' x12 x13 x14 x15 x16 x17, St t' h' → Vw need rv' sg' vo' cl' st' ix' t' → Tb rv' sg' vo' cl' st' t' → Bd rv' sg' vo' cl' st' → st'.length ≤ st.length + 6 → sg'.length ≤ sg.length + 1 → rv'.length ≤ rv.length + 1 → Q.n (e32 ns need n x12 x13 x14 x15 x16 x17) h') :
    SatS (tb32_0 (e32 ns need n x12 x13 x14 x15 x16 x17) h) Q := by
  unfold tb32_0
  refine s_seq (s_asg' (x_bin (x_var rfl (x_call (x_cons (x_var rfl (x_cons (x_var rfl (x_cons (x_c (x_nil (next_k s hn (by decide) (by decide) fun r1 h1 a1 b1 s1 => ?_))))))))))))
  obtain ⟨to, -, mt, et⟩ := str_at' (L := T3) a1 b1
  refine v_ixR (xs := T3.map .str) rfl et ?_
  dsimp only
  unfold tb32_1
  refine s_seq (s_asg' (x_bin (x_var rfl (x_call (x_cons (x_var rfl (x_cons (x_var rfl (x_cons (x_c (x_nil (next_k s1 hn (by decide) (by decide) fun r2 h2 a2 b2 s2 => ?_))))))))))))
  obtain ⟨ho, -, mh, eh⟩ := str_at' (L := HS) a2 b2
  refine v_ixR (xs := HS.map .str) rfl eh ?_
  dsimp only
  unfold tb32_2
  refine s_seq (s_asg' (x_bin (x_lst (x_cons (x_c (x_cons (x_c (x_cons (x_c (x_nil ⟨sl_le (show 3 ≤ 16777216 by decide), x_call (x_cons (x_var rfl (x_cons (x_var rfl (x_cons (x_c (x_nil (next_k s2 hn (by decide) (by decide) fun r3 h3 a3 b3 s3 => ?_))))))))⟩))))))))))
  obtain ⟨c, -, mc, ec⟩ := str_at' (L := C3) a3 b3
  refine v_ixR (xs := C3.map .str) rfl ec ?_
  dsimp only
  unfold tb32_3
  refine s_seq (s_asg' (x_call (x_cons (x_var rfl (x_cons (x_var rfl (x_cons (x_c (x_nil (next_k s3 hn (by decide) (by decide) fun w h4 a4 b4 s4 => ?_))))))))))
  dsimp only
  exact tb4_k hn B W T s4 mt mh mc sl rl gl q
end
end Vi

set_option Elab.async false
set_option linter.all false
set_option autoImplicit false
set_option maxRecDepth 100000
set_option maxHeartbeats 2000000
namespace Vi
open PySem PySem.Spec PyProof.Rows L2
open scoped Classical
local macro_rules | `(tactic| walk_at "x1") => `(tactic| with_reducible first
  | refine x_bin ?_ | refine x_tst ?_ | refine x_oB ?_ | refine x_c ?_ | refine s_seqA ?_ | refine s_seqU ?_ | refine s_seqE ?_ | refine s_seqN ?_ | refine s_seqD ?_ | refine s_seqF ?_ | refine s_seqL ?_ | refine s_asg' ?_ | refine s_if' ?_ | refine s_ret' ?_ | refine s_exp' ?_ | refine s_next ?_ | refine s_retN' ?_ | refine s_sub' ?_ | refine s_dsub' ?_ | refine s_setF' ?_ | refine s_ddel' ?_
  | refine x_cb ?_ | refine x_cons ?_ | refine x_nil ?_ | refine x_call ?_ | refine x_met ?_ | refine x_meth ?_ | refine x_make ?_ | refine x_fld ?_ | refine x_un ?_ | refine x_notT ?_ | refine x_andT ?_ | refine x_orT ?_ | refine x_and ?_ | refine x_or ?_ | refine x_not ?_ | refine x_if ?_
  | refine x_tup ?_ | refine x_lst ?_ | refine x_cel ?_ | refine x_dnew ?_ | refine x_sortIt ?_ | refine x_sl ?_ | refine x_noP ?_ | refine x_part ?_ | refine x_oI ?_ | refine x_mI ?_ | refine x_rng ?_ | refine x_yes ?_ | refine x_chn ?_ | refine x_fun ?_ | refine x_ok ?_)
local macro_rules | `(tactic| walk_at "x2") => `(tactic| first
  | ((with_reducible refine y_var ?_); refine ⟨_, rfl, ?_⟩)
  | ((with_reducible refine y_some ?_); refine ⟨_, rfl, ?_⟩)
  | ((with_reducible refine y_gP ?_); refine ⟨_, rfl, ?_⟩))
local macro_rules | `(tactic| walk_at "x") => `(tactic| repeat (first | walk_at "x1" | walk_at "x2" ))
local macro_rules | `(tactic| walk_at "nx") => `(tactic| (refine next_k (by assumption) (by assumption) (by first | decide | omega) (by first | decide | omega) ?_))
theorem rng_it9 {n : Nat} {pre post : List D} {x : D} (e : rngL 0 n = pre ++ x :: post) : x = .int (pre.length : Int) ∧ pre.length < n := by
  have hq := congrArg List.length e
  simp only [rngL, List.length_map, List.length_range, List.length_append, List.length_cons] at hq
  have h2 : (rngL 0 n)[pre.length]? = some x := by rw [e]; simp
  have hl : pre.length < n := by omega
  simp [rngL, hl] at h2
  exact ⟨h2.symm, hl⟩
section
variable {env : Env} {h : Hap} {P : D → Hap → Prop}
theorem fold_tp : ((["t", "u", "made\n"] : List Str).zip [D.ref 8, .ref 9, .ref 10]).foldl (fun acc kv => putD acc ((.inr kv.1 : Key)) kv.2) [] = tpD := by
  have e1 : (Sum.inr "t" : Key) ≠ .inr "u" := by decide +kernel
  have e2 : (Sum.inr "t" : Key) ≠ .inr "made\n" := by decide +kernel
  have e3 : (Sum.inr "u" : Key) ≠ .inr "made\n" := by decide +kernel
  show putD (putD (putD [] (.inr "t") (.ref 8)) (.inr "u") (.ref 9)) (.inr "made\n") (.ref 10) = tpD
  simp [putD, e1, e2, e3]
theorem x_disp9 {ks : List Str} {ms : List ME} (kds : List (Key × D)) (s : Sat (mLs ms env (h ++ [.dct []])) fun ds h2 => h2[h.length]? = some (.dct []) ∧ ds.length = ks.length ∧ ks.length ≤ 15 ∧ (ks.zip ds).foldl (fun acc kv => putD acc (.inr kv.1) kv.2) [] = kds ∧ P (.ref h.length) (h2.set h.length (.dct kds))) : Sat (mDisp ks ms env h) P :=
  x_disp (s.mono fun ds h2 ⟨a, b, d, e, p⟩ => ⟨a, b, d, by rw [e]; exact p⟩)
abbrev tl32 (need : Int) : Hap := rost need HS [] [] ++ [.dct tpD, .lst [], .lst [], .lst [], .dct [], .lst [], .lst [], .lst []]
theorem vw0 (need : Int) : Vw need [] [] (fun _ => []) [] [] [] (tl32 need) := ⟨rfl, rfl, rfl, rfl, rfl, rfl, fun _ m => (nomatch m), List.nodup_nil, List.nodup_nil, fun _ _ => rfl, Nat.le_refl 14⟩
theorem tb0 (need : Int) : Tb [] [] (fun _ => []) [] [] (tl32 need) := ⟨rfl, fun x mx => by
  simp only [List.mem_cons, List.not_mem_nil, or_false] at mx
  rcases mx with rfl | rfl | rfl
  · have : T3.idxOf ("t" : Str) = 0 := by decide +kernel
    rw [this]; rfl
  · have : T3.idxOf ("u" : Str) = 1 := by decide +kernel
    rw [this]; rfl
  · have : T3.idxOf ("made\n" : Str) = 2 := by decide +kernel
    rw [this]; rfl, rfl, rfl, rfl, rfl⟩
theorem bd0 : Bd [] [] (fun _ => []) [] [] := ⟨rqH (ys := []) (hs := HS) (by rw [List.append_nil]), fun _ m => (nomatch m), fun _ => ⟨List.nodup_nil, fun _ m => nomatch m⟩, List.nodup_nil, fun _ m => (nomatch m), by decide, fun _ m => nomatch m⟩
theorem k32_main (ns : List Int) (hn : ns.length ≤ 63) : ∃ h, Mi.m_law_31 [scr ns] [] = .ok (.bl true) h := by
  suffices h : Sat (Mi.m_law_31 [scr ns] []) fun d _ => d = .bl true by
    obtain ⟨a, h, e, q⟩ := h.ex
    exact ⟨h, by rw [e, q]⟩
  unfold Mi.m_law_31 Mi.b_law_31
  have s0 : St [] [stc 0 0 1] := ⟨0, 0, 1, rfl, by decide, by decide, by decide⟩
  refine x_fun (s_seq (s_asg' (x_cel (x_cons (x_c (x_cons (x_c (x_cons (x_c (x_nil ⟨sl_le (show 3 ≤ 16777216 by decide), ?_⟩))))))))))
  dsimp only
  refine s_seq (s_asg' (x_bin (x_c (x_call (x_cons (x_var rfl (x_cons (x_var rfl (x_cons (x_c (x_nil (next_k s0 hn (by decide) (by decide) fun r0 h0 a0 b0 s1 => ?_))))))))))))
  obtain ⟨c1, c2, c3, rfl, c4⟩ := s1
  refine x_some (d := .int (1 + r0)) rfl ?_
  generalize 1 + r0 = need
  dsimp only
  refine s_seq (s_asg' (x_make (x_cons (x_var rfl (x_nil (init_k ⟨rfl, ?_⟩))))))
  dsimp only
  refine s_seq (s_asg' (x_call (x_cons (x_var rfl (x_cons (x_c (x_nil (houses32_k ?_))))))))
  dsimp only
  refine s_seq (s_asg' (x_disp9 tpD ?_))
  refine (show Sat (mCons (mCel mNil) (mCons (mCel mNil) (mCons (mCel mNil) mNil)) _ _) _ from ?_)
  refine x_cons (x_cel (x_nil ⟨sl_le (show 0 ≤ 16777216 by decide), x_cons (x_cel (x_nil ⟨sl_le (show 0 ≤ 16777216 by decide), x_cons (x_cel (x_nil ⟨sl_le (show 0 ≤ 16777216 by decide), x_nil ⟨rfl, rfl, (show 3 ≤ 15 by decide), fold_tp, ?_⟩⟩))⟩))⟩))
  dsimp only
  refine s_seq (s_asg' (x_lst (x_cons (x_c (x_cons (x_c (x_cons (x_c (x_nil ⟨sl_le (show 3 ≤ 16777216 by decide), ?_⟩)))))))))
  dsimp only
  refine s_seq (s_asg' (x_dnew ?_))
  dsimp only
  refine s_seq (s_asg' (x_cel (x_nil ⟨sl_le (show 0 ≤ 16777216 by decide), ?_⟩)))
  dsimp only
  refine s_seq (s_asg' (x_cel (x_nil ⟨sl_le (show 0 ≤ 16777216 by decide), ?_⟩)))
  dsimp only
  refine s_seq (s_asg' (x_cel (x_nil ⟨sl_le (show 0 ≤ 16777216 by decide), ?_⟩)))
  have s2 : St (tl32 need) (stc c1 c2 c3 :: tl32 need) := ⟨c1, c2, c3, rfl, c4⟩
  refine (show SatS (mSeq (mFor (mRng rng1 (mCons (mCall Mi.m_law_next (mCons (mVar 1) (mCons (mVar 0) (mCons (mC (.int 41)) mNil)))) mNil)) (gNm 11) tb32_0) (mRet (mCall Mi.m_law_told_6 (mCons (mVar 3) (mCons (mVar 5) (mCons (mVar 7) (mCons (mVar 8) (mCons (mVar 4) mNil))))))) [some (scr ns), some (.ref 0), some (.int need), some (.ref 1), some (.lst (HS.map .str)), some (.ref 7), some (.lst (T3.map .str)), some (.ref 11), some (.ref 12), some (.ref 13), some (.ref 14), none, none, none, none, none, none, none] (stc c1 c2 c3 :: tl32 need)) _ from ?_)
  refine s_seq (s_forI (fun pre post e h => ∃ rv sg vo cl st ix t x11 x12 x13 x14 x15 x16 x17, e = [some (scr ns), some (.ref 0), some (.int need), some (.ref 1), some (.lst (HS.map .str)), some (.ref 7), some (.lst (T3.map .str)), some (.ref 11), some (.ref 12), some (.ref 13), some (.ref 14), x11, x12, x13, x14, x15, x16, x17] ∧ St t h ∧ Vw need rv sg vo cl st ix t ∧ Tb rv sg vo cl st t ∧ Bd rv sg vo cl st ∧ rv.length ≤ pre.length ∧ sg.length ≤ pre.length ∧ st.length ≤ 6 * pre.length) ?_)
  refine x_rng (x_cons (x_call (x_cons (x_var rfl (x_cons (x_var rfl (x_cons (x_c (x_nil (next_k s2 hn (by decide) (by decide) fun r1 h1 a1 b1 s3 => x_nil ?_))))))))))
  refine x_rng1 (by omega) ⟨⟨[], [], fun _ => [], [], [], [], tl32 need, _, _, _, _, _, _, _, rfl, s3, vw0 need, tb0 need, bd0, Nat.le_refl _, Nat.le_refl _, Nat.le_refl _⟩, fun _ _ _ _ _ _ => trivial, ?_, ?_⟩
  · rintro pre y post e h6 hx ⟨rv, sg, vo, cl, st, ix, t, x11, x12, x13, x14, x15, x16, x17, rfl, s4, W, T, B, l1, l2, l3⟩
    obtain ⟨rfl, hk⟩ := rng_it9 hx
    have hk : pre.length < 41 := by omega
    refine ⟨_, rfl, ?_⟩
    exact tb0_k (n := pre.length) hn B W T s4 (by omega) (by omega) (by omega) fun rv' sg' vo' cl' st' ix' t' h' y12 y13 y14 y15 y16 y17 s' W' T' B' m1 m2 m3 => ⟨rv', sg', vo', cl', st', ix', t', _, _, _, _, _, _, _, rfl, s', W', T', B', by rw [List.length_append, List.length_singleton]; omega, by rw [List.length_append, List.length_singleton]; omega, by rw [List.length_append, List.length_singleton]; omega⟩
  · rintro e h6 ⟨rv, sg, vo, cl, st, ix, t, x11, x12, x13, x14, x15, x16, x17, rfl, s4, W, T, B, -⟩
    exact s_ret' (x_call (x_cons (x_var rfl (x_cons (x_var rfl (x_cons (x_var rfl (x_cons (x_var rfl (x_cons (x_var rfl (x_nil (told6_k B W T s4 fun _ _ _ _ _ => rfl)))))))))))))
end
end Vi

set_option Elab.async false
set_option linter.all false
set_option autoImplicit false
set_option maxRecDepth 100000
set_option maxHeartbeats 4000000
namespace L32
open PySem PySem.Spec PyProof.Rows L2 Vi
noncomputable section
def top (i : Nat) : Stmt := PySem.Challenge.pw_truemill_k32_voices.main.body.getD i (.Pass ⟨0, 0, 0, 0⟩)
abbrev s_words_of : Stmt := top 5
abbrev N_words_of : List Str := ["topic", "claim"]
theorem sc_words_of : FnScope N_words_of ["topic", "claim"] (defScope s_words_of) := ⟨rfl, rfl, rfl, by decide +kernel, rfl, by decide +kernel, by decide +kernel⟩
abbrev s_Roster_init : Stmt := inClass (top 6) 0
abbrev N_Roster_init : List Str := ["self", "need"]
theorem sc_Roster_init : FnScope N_Roster_init ["self", "need"] (defScope s_Roster_init) := ⟨rfl, rfl, rfl, by decide +kernel, rfl, by decide +kernel, by decide +kernel⟩
abbrev s_Roster_is_revoked : Stmt := inClass (top 6) 5
abbrev N_Roster_is_revoked : List Str := ["self", "house"]
theorem sc_Roster_is_revoked : FnScope N_Roster_is_revoked ["self", "house"] (defScope s_Roster_is_revoked) := ⟨rfl, rfl, rfl, by decide +kernel, rfl, by decide +kernel, by decide +kernel⟩
abbrev s_Roster_claim_of : Stmt := inClass (top 6) 8
abbrev N_Roster_claim_of : List Str := ["self", "topic"]
theorem sc_Roster_claim_of : FnScope N_Roster_claim_of ["self", "topic"] (defScope s_Roster_claim_of) := ⟨rfl, rfl, rfl, by decide +kernel, rfl, by decide +kernel, by decide +kernel⟩
abbrev s_Roster_has_voice : Stmt := inClass (top 6) 9
abbrev N_Roster_has_voice : List Str := ["self", "topic", "house"]
theorem sc_Roster_has_voice : FnScope N_Roster_has_voice ["self", "topic", "house"] (defScope s_Roster_has_voice) := ⟨rfl, rfl, rfl, by decide +kernel, rfl, by decide +kernel, by decide +kernel⟩
abbrev s_Roster_vouchers : Stmt := inClass (top 6) 10
abbrev N_Roster_vouchers : List Str := ["self", "topic", "settled", "voices", "house", "claim", "mark"]
theorem sc_Roster_vouchers : FnScope N_Roster_vouchers ["self", "topic"] (defScope s_Roster_vouchers) := ⟨rfl, rfl, rfl, by decide +kernel, rfl, by decide +kernel, by decide +kernel⟩
abbrev s_Roster__tell_again : Stmt := inClass (top 6) 13
abbrev N_Roster__tell_again : List Str := ["self", "topic", "house", "claim"]
theorem sc_Roster__tell_again : FnScope N_Roster__tell_again ["self", "topic", "house", "claim"] (defScope s_Roster__tell_again) := ⟨rfl, rfl, rfl, by decide +kernel, rfl, by decide +kernel, by decide +kernel⟩
abbrev s_Roster__settle : Stmt := inClass (top 6) 15
abbrev N_Roster__settle : List Str := ["self", "topic", "claim", "voices", "house"]
theorem sc_Roster__settle : FnScope N_Roster__settle ["self", "topic", "claim"] (defScope s_Roster__settle) := ⟨rfl, rfl, rfl, by decide +kernel, rfl, by decide +kernel, by decide +kernel⟩
abbrev s_law_next : Stmt := top 8
abbrev N_law_next : List Str := ["state", "script", "many", "answer", "cell"]
theorem sc_law_next : FnScope N_law_next ["state", "script", "many"] (defScope s_law_next) := ⟨rfl, rfl, rfl, by decide +kernel, rfl, by decide +kernel, by decide +kernel⟩
abbrev s_law_yes : Stmt := top 10
abbrev N_law_yes : List Str := ["actual", "due"]
theorem sc_law_yes : FnScope N_law_yes ["actual", "due"] (defScope s_law_yes) := ⟨rfl, rfl, rfl, by decide +kernel, rfl, by decide +kernel, by decide +kernel⟩
abbrev s_law_words_of : Stmt := top 11
abbrev N_law_words_of : List Str := ["topic", "claim"]
theorem sc_law_words_of : FnScope N_law_words_of ["topic", "claim"] (defScope s_law_words_of) := ⟨rfl, rfl, rfl, by decide +kernel, rfl, by decide +kernel, by decide +kernel⟩
abbrev s_law_due : Stmt := top 13
abbrev N_law_due : List Str := ["topics", "settled", "strikes", "revoked", "need", "row", "topic", "house", "claim", "mark", "said", "voice"]
theorem sc_law_due : FnScope N_law_due ["topics", "settled", "strikes", "revoked", "need", "row"] (defScope s_law_due) := ⟨rfl, rfl, rfl, by decide +kernel, rfl, by decide +kernel, by decide +kernel⟩
abbrev s_Roster_counts : Stmt := inClass (top 6) 6
abbrev N_Roster_counts : List Str := ["self", "mark", "house", "words"]
theorem sc_Roster_counts : FnScope N_Roster_counts ["self", "mark", "house", "words"] (defScope s_Roster_counts) := ⟨rfl, rfl, rfl, by decide +kernel, rfl, by decide +kernel, by decide +kernel⟩
abbrev s_Roster__supporters : Stmt := inClass (top 6) 14
abbrev N_Roster__supporters : List Str := ["self", "topic", "claim", "voices", "house"]
theorem sc_Roster__supporters : FnScope N_Roster__supporters ["self", "topic", "claim"] (defScope s_Roster__supporters) := ⟨rfl, rfl, rfl, by decide +kernel, rfl, by decide +kernel, by decide +kernel⟩
abbrev s_Roster_add : Stmt := inClass (top 6) 1
abbrev N_Roster_add : List Str := ["self", "house"]
theorem sc_Roster_add : FnScope N_Roster_add ["self", "house"] (defScope s_Roster_add) := ⟨rfl, rfl, rfl, by decide +kernel, rfl, by decide +kernel, by decide +kernel⟩
abbrev s_Roster_tell : Stmt := inClass (top 6) 7
abbrev N_Roster_tell : List Str := ["self", "topic", "house", "claim", "mark", "settled", "voices"]
theorem sc_Roster_tell : FnScope N_Roster_tell ["self", "topic", "house", "claim", "mark"] (defScope s_Roster_tell) := ⟨rfl, rfl, rfl, by decide +kernel, rfl, by decide +kernel, by decide +kernel⟩
abbrev s_Roster_strikes : Stmt := inClass (top 6) 11
abbrev N_Roster_strikes : List Str := ["self", "house"]
theorem sc_Roster_strikes : FnScope N_Roster_strikes ["self", "house"] (defScope s_Roster_strikes) := ⟨rfl, rfl, rfl, by decide +kernel, rfl, by decide +kernel, by decide +kernel⟩
abbrev s_Roster__check : Stmt := inClass (top 6) 12
abbrev N_Roster__check : List Str := ["self", "house"]
theorem sc_Roster__check : FnScope N_Roster__check ["self", "house"] (defScope s_Roster__check) := ⟨rfl, rfl, rfl, by decide +kernel, rfl, by decide +kernel, by decide +kernel⟩
abbrev s_Roster_sign : Stmt := inClass (top 6) 3
abbrev N_Roster_sign : List Str := ["self", "house", "words", "mark"]
theorem sc_Roster_sign : FnScope N_Roster_sign ["self", "house", "words"] (defScope s_Roster_sign) := ⟨rfl, rfl, rfl, by decide +kernel, rfl, by decide +kernel, by decide +kernel⟩
abbrev s_Roster_revoke : Stmt := inClass (top 6) 4
abbrev N_Roster_revoke : List Str := ["self", "house"]
theorem sc_Roster_revoke : FnScope N_Roster_revoke ["self", "house"] (defScope s_Roster_revoke) := ⟨rfl, rfl, rfl, by decide +kernel, rfl, by decide +kernel, by decide +kernel⟩
abbrev s_law_houses : Stmt := top 12
abbrev N_law_houses : List Str := ["roster", "many", "names", "name", "k"]
theorem sc_law_houses : FnScope N_law_houses ["roster", "many"] (defScope s_law_houses) := ⟨rfl, rfl, rfl, by decide +kernel, rfl, by decide +kernel, by decide +kernel⟩
abbrev s_law_same : Stmt := top 9
abbrev N_law_same : List Str := ["actual", "due", "k"]
theorem sc_law_same : FnScope N_law_same ["actual", "due"] (defScope s_law_same) := ⟨rfl, rfl, rfl, by decide +kernel, rfl, by decide +kernel, by decide +kernel⟩
abbrev s_law_told : Stmt := top 14
abbrev N_law_told : List Str := ["roster", "topics", "settled", "strikes", "houses", "topic", "claim", "due", "house", "there", "problem", "voice"]
theorem sc_law_told : FnScope N_law_told ["roster", "topics", "settled", "strikes", "houses"] (defScope s_law_told) := ⟨rfl, rfl, rfl, by decide +kernel, rfl, by decide +kernel, by decide +kernel⟩
abbrev s_law : Stmt := top 15
abbrev N_law : List Str := ["script", "state", "need", "roster", "houses", "topics", "names", "settled", "strikes", "revoked", "marks", "turn", "topic", "house", "claim", "choice", "mark", "due"]
theorem sc_law : FnScope N_law ["script"] (defScope s_law) := ⟨rfl, rfl, rfl, by decide +kernel, rfl, by decide +kernel, by decide +kernel⟩
abbrev si_RosterProblem : Stmt := inner (top 2)
theorem sci_RosterProblem : FnScope ["self", "reason"] ["self", "reason"] (defScope si_RosterProblem) := ⟨rfl, rfl, rfl, by decide +kernel, rfl, by decide +kernel, by decide +kernel⟩
section
variable [Tbl]
structure Txt (wd : World) (K : PySem.W.Frag) (mg : Str → Option Value) : Prop where
  h_words_of : Has K mg "words_of" s_words_of ["topic", "claim"]
  h_law_next : Has K mg "_law_next" s_law_next ["state", "script", "many"]
  h_law_yes : Has K mg "_law_yes" s_law_yes ["actual", "due"]
  h_law_words_of : Has K mg "_law_words_of" s_law_words_of ["topic", "claim"]
  h_law_due : Has K mg "_law_due" s_law_due ["topics", "settled", "strikes", "revoked", "need", "row"]
  h_law_houses : Has K mg "_law_houses" s_law_houses ["roster", "many"]
  h_law_same : Has K mg "_law_same" s_law_same ["actual", "due"]
  h_law_told : Has K mg "_law_told" s_law_told ["roster", "topics", "settled", "strikes", "houses"]
  b_abs : mg "abs" = none
  b_bool : mg "bool" = none
  b_int : mg "int" = none
  b_isinstance : mg "isinstance" = none
  b_len : mg "len" = none
  b_range : mg "range" = none
  b_str : mg "str" = none
  b_tuple : mg "tuple" = none
  g_MOST_HOUSES : ∃ t, mg "MOST_HOUSES" = some (.int 20 t)
  q_RosterProblem : ∃ C, mg "RosterProblem" = some (.ref C) ∧ ExQ K C
  k_RosterProblem : Cat K mg "RosterProblem" ["RosterProblem"] []
  x_RosterProblem : ∀ {C}, mg "RosterProblem" = some (.ref C) → XfC K C
  f_RosterProblem_reason : ∀ {C}, mg "RosterProblem" = some (.ref C) → PySem.W.findIn K (.ref C) "reason" = some none
  n_RosterProblem : ∃ C fI fd, mg "RosterProblem" = some (.ref C) ∧ OexC K C ∧ PySem.W.findIn K (.ref C) "__init__" = some (some (.ref fI)) ∧ PySem.W.typeIn K (.ref fI) = some (.type "function") ∧ Fun K "__init__" "RosterProblem.__init__" si_RosterProblem fI fd ∧ Binds K fd ["self", "reason"] [] ∧ ∀ f ∈ [("reason" : Str)], PySem.W.findIn K (.ref C) f = some none
  hc_Roster : HasC K mg "Roster" "Roster.__init__" s_Roster_init ["self", "need"]
  hm_Roster_add : HasM K "Roster" "add" "Roster.add" s_Roster_add ["self", "house"]
  hm_Roster_sign : HasM K "Roster" "sign" "Roster.sign" s_Roster_sign ["self", "house", "words"]
  hm_Roster_revoke : HasM K "Roster" "revoke" "Roster.revoke" s_Roster_revoke ["self", "house"]
  hm_Roster_is_revoked : HasM K "Roster" "is_revoked" "Roster.is_revoked" s_Roster_is_revoked ["self", "house"]
  hm_Roster_counts : HasM K "Roster" "counts" "Roster.counts" s_Roster_counts ["self", "mark", "house", "words"]
  hm_Roster_tell : HasM K "Roster" "tell" "Roster.tell" s_Roster_tell ["self", "topic", "house", "claim", "mark"]
  hm_Roster_claim_of : HasM K "Roster" "claim_of" "Roster.claim_of" s_Roster_claim_of ["self", "topic"]
  hm_Roster_has_voice : HasM K "Roster" "has_voice" "Roster.has_voice" s_Roster_has_voice ["self", "topic", "house"]
  hm_Roster_vouchers : HasM K "Roster" "vouchers" "Roster.vouchers" s_Roster_vouchers ["self", "topic"]
  hm_Roster_strikes : HasM K "Roster" "strikes" "Roster.strikes" s_Roster_strikes ["self", "house"]
  hm_Roster__check : HasM K "Roster" "_check" "Roster._check" s_Roster__check ["self", "house"]
  hm_Roster__tell_again : HasM K "Roster" "_tell_again" "Roster._tell_again" s_Roster__tell_again ["self", "topic", "house", "claim"]
  hm_Roster__supporters : HasM K "Roster" "_supporters" "Roster._supporters" s_Roster__supporters ["self", "topic", "claim"]
  hm_Roster__settle : HasM K "Roster" "_settle" "Roster._settle" s_Roster__settle ["self", "topic", "claim"]
  a_Roster__claims : HasA K "Roster" "_claims"
  a_Roster__houses : HasA K "Roster" "_houses"
  a_Roster__signed : HasA K "Roster" "_signed"
  a_Roster__strikes : HasA K "Roster" "_strikes"
  a_Roster__voices : HasA K "Roster" "_voices"
  a_Roster_need : HasA K "Roster" "need"
section
variable {P : Program} {wd : World} {K : PySem.W.Frag} {mg : Str → Option Value} {base : Heap}
theorem ok_ini_RosterProblem (T : Txt wd K mg) : OkI P wd K mg base "RosterProblem" 1 ["reason"] := by
  obtain ⟨C, fI, fd, h1, h2, h3, h4, F, h5, h6⟩ := T.n_RosterProblem
  refine ⟨C, fI, fd, _, h1, h2, h3, h4, h5, fnOk_of (k := 0) F sci_RosterProblem (fun vs H Q E z => z.1) fun cdv A outer s H vs Q E hr z => ?_⟩
  obtain ⟨_, a, ws, rfl, hw, e, q⟩ := z
  obtain ⟨w0, rfl⟩ : ∃ w0, ws = [w0] := by
    match ws, hw with
    | [w0], _ => exact ⟨_, rfl⟩
  refine ⟨_, (pss_one (ps_ost (pe_var (i := 0) rfl (.inl rfl)) (pe_var (i := 1) rfl (.inl rfl)))), ?_⟩
  exact ini_1 h2 h6 e q fun _ _ z => z
theorem okh_law_same (T : Txt wd K mg) : ∀ n : Nat, OkH P wd K mg base "_law_same" (1 + n) 2 (Mi.mm_law_same n)
  | 0 => OkH.zero (k := 1) T.h_law_same rfl
  | n + 1 => OkH.mk' (k := 1 + n) (b := Mi.b_law_same (Mi.mm_law_same n)) T.h_law_same sc_law_same rfl rfl rfl fun f cdv A outer s H E pz hc hr =>
  (ss_cons (s_if (c_cmp op_isN s_is (e_var (i := 1) rfl (.inl rfl)) e_non (nomark _)) (ss_one (s_ret (e_cmp op_isN s_is (e_var (i := 0) rfl (.inl rfl)) e_non (nomark _)))) ss_nil)
    (ss_cons (s_if (c_val (e_cb call_isi s_isi rfl T.b_isinstance bl_isinstance (a_cons (e_var (i := 1) rfl (.inl rfl)) (a_cons (e_ty T.b_tuple bl_tuple rfl) a_nil)))) (ss_cons (s_if (c_w (w_or (c_not (c_val (e_cb call_isi s_isi rfl T.b_isinstance bl_isinstance (a_cons (e_var (i := 0) rfl (.inl rfl)) (a_cons (e_ty T.b_tuple bl_tuple rfl) a_nil))))) (w_or1 (c_cmp (o_ne (hunits hr)) s_ne (e_cb call_len s_len rfl T.b_len bl_len (a_cons (e_var (i := 0) rfl (.inl rfl)) a_nil)) (e_cb call_len s_len rfl T.b_len bl_len (a_cons (e_var (i := 1) rfl (.inl rfl)) a_nil)) (nomark _))))) (ss_one (s_ret e_bl)) ss_nil)
    (ss_cons (s_forh (passes_of rfl) hc T.b_range rfl (a_cons (e_cb call_len s_len rfl T.b_len bl_len (a_cons (e_var (i := 1) rfl (.inl rfl)) a_nil)) a_nil) (pg_name (i := 2) sc_law_same.nd rfl (.inl rfl)) (g_nm 2) (ss_one (s_if (c_not (c_val (e_fh (okh_law_same T n) hr (by first | decide | omega) hc (L2N.takes_of rfl rfl rfl rfl) (a_cons (e_ix (e_var (i := 0) rfl (.inl rfl)) (e_var (i := 2) rfl (.inl rfl)) (fun _ _ => rfl)) (a_cons (e_ix (e_var (i := 1) rfl (.inl rfl)) (e_var (i := 2) rfl (.inl rfl)) (fun _ _ => rfl)) a_nil)) (mCons_len (mCons_len mNil_len)) rfl))) (ss_one (s_ret e_bl)) ss_nil)))
    (ss_one (s_ret e_bl)))) ss_nil)
    (ss_cons (s_if (c_val (e_cb call_isi s_isi rfl T.b_isinstance bl_isinstance (a_cons (e_var (i := 1) rfl (.inl rfl)) (a_cons (e_ty T.b_bool bl_bool rfl) a_nil)))) (ss_one (s_ret (e_and (e_cb call_isi s_isi rfl T.b_isinstance bl_isinstance (a_cons (e_var (i := 0) rfl (.inl rfl)) (a_cons (e_ty T.b_bool bl_bool rfl) a_nil))) (e_one (e_cmp (o_eq (hunits hr)) s_eq (e_var (i := 0) rfl (.inl rfl)) (e_var (i := 1) rfl (.inl rfl)) (nomark _)))))) ss_nil)
    (ss_cons (s_if (c_val (e_cb call_isi s_isi rfl T.b_isinstance bl_isinstance (a_cons (e_var (i := 1) rfl (.inl rfl)) (a_cons (e_ty T.b_int bl_int rfl) a_nil)))) (ss_one (s_ret (e_and (e_cb call_isi s_isi rfl T.b_isinstance bl_isinstance (a_cons (e_var (i := 0) rfl (.inl rfl)) (a_cons (e_ty T.b_int bl_int rfl) a_nil))) (e_and (e_not (e_cb call_isi s_isi rfl T.b_isinstance bl_isinstance (a_cons (e_var (i := 0) rfl (.inl rfl)) (a_cons (e_ty T.b_bool bl_bool rfl) a_nil)))) (e_one (e_cmp (o_eq (hunits hr)) s_eq (e_var (i := 0) rfl (.inl rfl)) (e_var (i := 1) rfl (.inl rfl)) (nomark _))))))) ss_nil)
    (ss_one (s_ret (e_and (e_cb call_isi s_isi rfl T.b_isinstance bl_isinstance (a_cons (e_var (i := 0) rfl (.inl rfl)) (a_cons (e_ty T.b_str bl_str rfl) a_nil))) (e_one (e_cmp (o_eq (hunits hr)) s_eq (e_var (i := 0) rfl (.inl rfl)) (e_var (i := 1) rfl (.inl rfl)) (nomark _))))))))))
theorem okhm_law_same (T : Txt wd K mg) : OkH P wd K mg base "_law_same" 13 2 Mi.m_law_same := okh_law_same T 12
theorem ok_words_of (T : Txt wd K mg) : OkF P wd K mg base "words_of" 1 2 Mi.m_words_of := OkF.mk' (k := 0) (b := Mi.b_words_of) T.h_words_of sc_words_of rfl rfl rfl fun f cdv A outer s H E hr =>
  (ss_one (s_ret (e_js (.cons (e_fm (e_cb call_len s_len rfl T.b_len bl_len (a_cons (e_var (i := 0) rfl (.inl rfl)) a_nil))) (.cons e_str (.cons (e_fm (e_var (i := 0) rfl (.inl rfl))) (.cons (e_fm (e_var (i := 1) rfl (.inl rfl))) .nil)))))))
theorem okc_Roster (T : Txt wd K mg) : OkC P wd K mg base "Roster" 1 2 Mi.m_Roster_init := OkC.mk' (k := 0) (b := Mi.b_Roster_init) T.hc_Roster sc_Roster_init rfl rfl rfl fun f cdv A outer s H E hr =>
  (ss_cons (s_setF T.a_Roster_need (e_var (i := 1) rfl (.inl rfl)) (e_var (i := 0) rfl (.inl rfl)))
    (ss_cons (s_setF T.a_Roster__houses e_dnew (e_var (i := 0) rfl (.inl rfl)))
    (ss_cons (s_setF T.a_Roster__strikes e_dnew (e_var (i := 0) rfl (.inl rfl)))
    (ss_cons (s_setF T.a_Roster__signed e_dnew (e_var (i := 0) rfl (.inl rfl)))
    (ss_cons (s_setF T.a_Roster__voices e_dnew (e_var (i := 0) rfl (.inl rfl)))
    (ss_one (s_setF T.a_Roster__claims e_dnew (e_var (i := 0) rfl (.inl rfl)))))))))
theorem okmt_Roster_is_revoked (T : Txt wd K mg) : OkM P wd K mg base "Roster" "is_revoked" 1 2 Mi.m_Roster_is_revoked := OkM.mk' (k := 0) (b := Mi.b_Roster_is_revoked) T.hm_Roster_is_revoked sc_Roster_is_revoked rfl rfl rfl fun f cdv A outer s H E hr =>
  (ss_one (s_ret (e_dget2 hr.units (e_fld T.a_Roster__houses (e_var (i := 0) rfl (.inl rfl))) (e_var (i := 1) rfl (.inl rfl)) e_bl ⟨rfl, rfl, rfl, rfl⟩)))
theorem okmt_Roster_claim_of (T : Txt wd K mg) : OkM P wd K mg base "Roster" "claim_of" 1 2 Mi.m_Roster_claim_of := OkM.mk' (k := 0) (b := Mi.b_Roster_claim_of) T.hm_Roster_claim_of sc_Roster_claim_of rfl rfl rfl fun f cdv A outer s H E hr =>
  (ss_one (s_ret (e_dget1 hr.units (e_fld T.a_Roster__claims (e_var (i := 0) rfl (.inl rfl))) (e_var (i := 1) rfl (.inl rfl)) ⟨rfl, rfl, rfl, rfl⟩)))
theorem okmt_Roster_has_voice (T : Txt wd K mg) : OkM P wd K mg base "Roster" "has_voice" 1 3 Mi.m_Roster_has_voice := OkM.mk' (k := 0) (b := Mi.b_Roster_has_voice) T.hm_Roster_has_voice sc_Roster_has_voice rfl rfl rfl fun f cdv A outer s H E hr =>
  (ss_one (s_ret (e_cmp (op_din hr.units) s_din (e_var (i := 2) rfl (.inl rfl)) (e_dget2 hr.units (e_fld T.a_Roster__voices (e_var (i := 0) rfl (.inl rfl))) (e_var (i := 1) rfl (.inl rfl)) e_dnew ⟨rfl, rfl, rfl, rfl⟩) rfl)))
theorem okmt_Roster_vouchers (T : Txt wd K mg) : OkM P wd K mg base "Roster" "vouchers" 1 2 Mi.m_Roster_vouchers := OkM.mk' (k := 0) (b := Mi.b_Roster_vouchers) T.hm_Roster_vouchers sc_Roster_vouchers rfl rfl rfl fun f cdv A outer s H E hr =>
  (ss_cons (s_if (c_cmp (op_dnotin hr.units) s_dnotin (e_var (i := 1) rfl (.inl rfl)) (e_fld T.a_Roster__claims (e_var (i := 0) rfl (.inl rfl))) rfl) (ss_one (s_ret (e_tup a_nil))) ss_nil)
    (ss_cons (s_set (i := 2) sc_Roster_vouchers.nd rfl (.inr rfl) (e_dget hr.units (e_fld T.a_Roster__claims (e_var (i := 0) rfl (.inl rfl))) (e_var (i := 1) rfl (.inl rfl)) (fun _ _ => rfl)))
    (ss_cons (s_set (i := 3) sc_Roster_vouchers.nd rfl (.inl rfl) (e_dget hr.units (e_fld T.a_Roster__voices (e_var (i := 0) rfl (.inl rfl))) (e_var (i := 1) rfl (.inl rfl)) (fun _ _ => rfl)))
    (ss_one (s_ret (e_cty call_tuple_of s_tupleOf rfl T.b_tuple bl_tuple (a_cons (e_lokG (g := (gVr 3)) (e_comp (own := [("house", 4), ("claim", 5), ("mark", 6)]) rfl sc_Roster_vouchers.nd (blkOk_by (own := [("house", 4), ("claim", 5), ("mark", 6)]) (N := N_Roster_vouchers) (sc := defScope s_Roster_vouchers) (by decide +kernel)) (by decide) (g_tp (gs_cons (g_nm 4) (gs_cons (g_tp (gs_cons (g_nm 5) (gs_cons (g_nm 6) gs_nil))) gs_nil))) (i_items (e_var (i := 3) rfl (.inl rfl))) (fun _ _ _ _ _ => (pg_tup rfl (pgs_cons (pg_name (i := 4) sc_Roster_vouchers.nd rfl (by exact .inl rfl)) (pgs_cons (pg_tup rfl (pgs_cons (pg_name (i := 5) sc_Roster_vouchers.nd rfl (by exact .inl rfl)) (pgs_cons (pg_name (i := 6) sc_Roster_vouchers.nd rfl (by exact .inl rfl)) pgs_nil))) pgs_nil)))) (fun _ _ _ _ _ => (ts_one (c_cmp (o_eq hr.units) s_eq (e_var (i := 5) rfl (by exact .inl rfl)) (e_var (i := 2) rfl (by exact .inr (.inl rfl))) (nomark _)))) (fun _ _ _ _ _ => (e_tup (a_cons (e_var (i := 4) rfl (by exact .inl rfl)) (a_cons (e_var (i := 6) rfl (by exact .inl rfl)) a_nil)))))) a_nil)))))))
theorem okmt_Roster__tell_again (T : Txt wd K mg) : OkM P wd K mg base "Roster" "_tell_again" 1 4 Mi.m_Roster__tell_again := OkM.mk' (k := 0) (b := Mi.b_Roster__tell_again) T.hm_Roster__tell_again sc_Roster__tell_again rfl rfl rfl fun f cdv A outer s H E hr =>
  (ss_cons (s_if (c_cmp (o_eq hr.units) s_eq (e_ix (e_dget hr.units (e_dget hr.units (e_fld T.a_Roster__voices (e_var (i := 0) rfl (.inl rfl))) (e_var (i := 1) rfl (.inl rfl)) (fun _ _ => rfl)) (e_var (i := 2) rfl (.inl rfl)) (fun _ _ => rfl)) e_int (fun _ _ => rfl)) (e_var (i := 3) rfl (.inl rfl)) (nomark _)) (ss_one (s_ret e_str)) ss_nil)
    (ss_cons (s_daug hr.units (e_fld T.a_Roster__strikes (e_var (i := 0) rfl (.inl rfl))) (e_var (i := 2) rfl (.inl rfl)) e_int)
    (ss_one (s_ret e_str))))
theorem okmt_Roster__settle (T : Txt wd K mg) : OkM P wd K mg base "Roster" "_settle" 1 3 Mi.m_Roster__settle := OkM.mk' (k := 0) (b := Mi.b_Roster__settle) T.hm_Roster__settle sc_Roster__settle rfl rfl rfl fun f cdv A outer s H E hr =>
  (ss_cons (s_dsub hr.units (e_var (i := 2) rfl (.inl rfl)) (e_fld T.a_Roster__claims (e_var (i := 0) rfl (.inl rfl))) (e_var (i := 1) rfl (.inl rfl)))
    (ss_cons (s_set (i := 3) sc_Roster__settle.nd rfl (.inl rfl) (e_dget hr.units (e_fld T.a_Roster__voices (e_var (i := 0) rfl (.inl rfl))) (e_var (i := 1) rfl (.inl rfl)) (fun _ _ => rfl)))
    (ss_one (s_lokG (g := (gVr 3)) (s_for (passes_of rfl) rfl (pg_name (i := 4) sc_Roster__settle.nd rfl (.inl rfl)) (g_nm 4) (i_keysE (e_var (i := 3) rfl (.inl rfl))) (ss_one (s_if (c_cmp (o_ne hr.units) s_ne (e_ix (e_dgetL hr.units (e_var (i := 3) rfl (.inl rfl)) (e_var (i := 4) rfl (.inl rfl)) (fun _ _ => rfl)) e_int (fun _ _ => rfl)) (e_var (i := 2) rfl (.inl rfl)) (nomark _)) (ss_one (s_daug hr.units (e_fld T.a_Roster__strikes (e_var (i := 0) rfl (.inl rfl))) (e_var (i := 4) rfl (.inl rfl)) e_int)) ss_nil)))))))
theorem ok_law_next (T : Txt wd K mg) : OkF P wd K mg base "_law_next" 1 3 Mi.m_law_next := OkF.mk' (k := 0) (b := Mi.b_law_next) T.h_law_next sc_law_next rfl rfl rfl fun f cdv A outer s H E hr =>
  (ss_cons (s_if (c_cmp o_gt s_cmp (e_ix (e_var (i := 0) rfl (.inl rfl)) e_int (fun _ _ => rfl)) e_int (nomark _)) (ss_cons (s_set (i := 3) sc_law_next.nd rfl (.inl rfl) (e_bin op_modN s_mod (e_cty call_int1 s_int rfl T.b_int bl_int (a_cons (e_ix (e_var (i := 0) rfl (.inl rfl)) e_int (fun _ _ => rfl)) a_nil)) (e_var (i := 2) rfl (.inl rfl))))
    (ss_cons (s_sub1 (e_bin op_fdivN s_div (e_cty call_int1 s_int rfl T.b_int bl_int (a_cons (e_ix (e_var (i := 0) rfl (.inl rfl)) e_int (fun _ _ => rfl)) a_nil)) (e_var (i := 2) rfl (.inl rfl))) (e_var (i := 0) rfl (.inl rfl)) e_int)
    (ss_one (s_ret (e_var (i := 3) rfl (.inl rfl)))))) ss_nil)
    (ss_cons (s_set (i := 4) sc_law_next.nd rfl (.inl rfl) e_int)
    (ss_cons (s_if (c_cmp o_lt s_cmp (e_ix (e_var (i := 0) rfl (.inl rfl)) e_int (fun _ _ => rfl)) (e_cb call_len s_len rfl T.b_len bl_len (a_cons (e_var (i := 1) rfl (.inl rfl)) a_nil)) (nomark _)) (ss_one (s_set (i := 4) sc_law_next.nd rfl (.inl rfl) (e_cb call_abs s_abs rfl T.b_abs bl_abs (a_cons (e_cty call_int1 s_int rfl T.b_int bl_int (a_cons (e_ix (e_var (i := 1) rfl (.inl rfl)) (e_ix (e_var (i := 0) rfl (.inl rfl)) e_int (fun _ _ => rfl)) (fun _ _ => rfl)) a_nil)) a_nil)))) ss_nil)
    (ss_cons (s_sub1 (e_bin o_add s_add (e_ix (e_var (i := 0) rfl (.inl rfl)) e_int (fun _ _ => rfl)) e_int) (e_var (i := 0) rfl (.inl rfl)) e_int)
    (ss_cons (s_if (c_cmp o_ge s_cmp (e_var (i := 4) rfl (.inl rfl)) (e_bin op_pow s_pow e_int e_int) (nomark _)) (ss_cons (s_sub1 (e_bin op_fdivN s_div (e_var (i := 4) rfl (.inl rfl)) (e_var (i := 2) rfl (.inl rfl))) (e_var (i := 0) rfl (.inl rfl)) e_int)
    (ss_one (s_ret (e_bin op_modN s_mod (e_cty call_int1 s_int rfl T.b_int bl_int (a_cons (e_var (i := 4) rfl (.inl rfl)) a_nil)) (e_var (i := 2) rfl (.inl rfl)))))) ss_nil)
    (ss_cons (s_sub1 (e_bin op_modN s_mod (e_cty call_int1 s_int rfl T.b_int bl_int (a_cons (e_bin o_add s_add (e_bin o_add s_add (e_bin o_mul s_mul (e_ix (e_var (i := 0) rfl (.inl rfl)) e_int (fun _ _ => rfl)) e_int) (e_bin o_mul s_mul (e_var (i := 4) rfl (.inl rfl)) e_int)) e_int) a_nil)) e_int) (e_var (i := 0) rfl (.inl rfl)) e_int)
    (ss_one (s_ret (e_bin op_modN s_mod (e_cty call_int1 s_int rfl T.b_int bl_int (a_cons (e_bin o_add s_add (e_bin op_fdivN s_div (e_ix (e_var (i := 0) rfl (.inl rfl)) e_int (fun _ _ => rfl)) e_int) (e_bin op_fdivN s_div (e_bin o_mul s_mul (e_ix (e_var (i := 0) rfl (.inl rfl)) e_int (fun _ _ => rfl)) (e_ix (e_var (i := 0) rfl (.inl rfl)) e_int (fun _ _ => rfl))) e_int)) a_nil)) (e_var (i := 2) rfl (.inl rfl)))))))))))
theorem ok_law_yes (T : Txt wd K mg) : OkF P wd K mg base "_law_yes" 1 2 Mi.m_law_yes := OkF.mk' (k := 0) (b := Mi.b_law_yes) T.h_law_yes sc_law_yes rfl rfl rfl fun f cdv A outer s H E hr =>
  (ss_one (s_ret (e_and (e_cb call_isi s_isi rfl T.b_isinstance bl_isinstance (a_cons (e_var (i := 0) rfl (.inl rfl)) (a_cons (e_ty T.b_bool bl_bool rfl) a_nil))) (e_one (e_cmp (o_eq hr.units) s_eq (e_var (i := 0) rfl (.inl rfl)) (e_var (i := 1) rfl (.inl rfl)) (nomark _))))))
theorem ok_law_words_of (T : Txt wd K mg) : OkF P wd K mg base "_law_words_of" 1 2 Mi.m_law_words_of := OkF.mk' (k := 0) (b := Mi.b_law_words_of) T.h_law_words_of sc_law_words_of rfl rfl rfl fun f cdv A outer s H E hr =>
  (ss_one (s_ret (e_bin o_add s_add (e_bin o_add s_add (e_bin o_add s_add (e_cty call_str_int s_str rfl T.b_str bl_str (a_cons (e_cb call_len s_len rfl T.b_len bl_len (a_cons (e_var (i := 0) rfl (.inl rfl)) a_nil)) a_nil)) e_str) (e_var (i := 0) rfl (.inl rfl))) (e_var (i := 1) rfl (.inl rfl)))))
theorem ok_law_due (T : Txt wd K mg) : OkF P wd K mg base "_law_due" 1 6 Mi.m_law_due_6 := OkF.mk' (k := 0) (b := Mi.b_law_due_6) T.h_law_due sc_law_due rfl rfl rfl fun f cdv A outer s H E hr =>
  (ss_cons (s_asg (pg_tup rfl (pgs_cons (pg_name (i := 6) sc_law_due.nd rfl (.inl rfl)) (pgs_cons (pg_name (i := 7) sc_law_due.nd rfl (.inl rfl)) (pgs_cons (pg_name (i := 8) sc_law_due.nd rfl (.inr rfl)) (pgs_cons (pg_name (i := 9) sc_law_due.nd rfl (.inl rfl)) pgs_nil))))) (g_tp (gs_cons (g_nm 6) (gs_cons (g_nm 7) (gs_cons (g_nm 8) (gs_cons (g_nm 9) gs_nil))))) (e_var (i := 5) rfl (.inl rfl)))
    (ss_cons (s_set (i := 10) sc_law_due.nd rfl (.inl rfl) (e_dget hr.units (e_var (i := 0) rfl (.inl rfl)) (e_var (i := 6) rfl (.inl rfl)) (fun _ _ => rfl)))
    (ss_cons (s_for (passes_of rfl) rfl (pg_name (i := 11) sc_law_due.nd rfl (.inl rfl)) (g_nm 11) (i_any (e_var (i := 10) rfl (.inl rfl))) (ss_one (s_if (c_cmp (o_eq hr.units) s_eq (e_ix (e_var (i := 11) rfl (.inl rfl)) e_int (fun _ _ => rfl)) (e_var (i := 7) rfl (.inl rfl)) (nomark _)) (ss_cons (s_if (c_cmp (o_eq hr.units) s_eq (e_ix (e_var (i := 11) rfl (.inl rfl)) e_int (fun _ _ => rfl)) (e_var (i := 8) rfl (.inr (.inl rfl))) (nomark _)) (ss_one (s_ret e_str)) ss_nil)
    (ss_cons (s_exp (e_met PySem.F.plainAttrs_list PySem.F.slot_list_append PySem.F.type_list_append mt_append s_append (e_var (i := 2) rfl (.inl rfl)) (a_cons (e_var (i := 7) rfl (.inl rfl)) a_nil)))
    (ss_one (s_ret e_str)))) ss_nil)))
    (ss_cons (s_exp (e_met PySem.F.plainAttrs_list PySem.F.slot_list_append PySem.F.type_list_append mt_append s_append (e_var (i := 10) rfl (.inl rfl)) (a_cons (e_tup (a_cons (e_var (i := 7) rfl (.inl rfl)) (a_cons (e_var (i := 8) rfl (.inr (.inl rfl))) (a_cons (e_var (i := 9) rfl (.inl rfl)) a_nil)))) a_nil)))
    (ss_cons (s_if (c_cmp (op_din hr.units) s_din (e_var (i := 6) rfl (.inl rfl)) (e_var (i := 1) rfl (.inl rfl)) rfl) (ss_cons (s_if (c_cmp (o_eq hr.units) s_eq (e_dget hr.units (e_var (i := 1) rfl (.inl rfl)) (e_var (i := 6) rfl (.inl rfl)) (fun _ _ => rfl)) (e_var (i := 8) rfl (.inr (.inl rfl))) (nomark _)) (ss_one (s_ret e_str)) ss_nil)
    (ss_cons (s_exp (e_met PySem.F.plainAttrs_list PySem.F.slot_list_append PySem.F.type_list_append mt_append s_append (e_var (i := 2) rfl (.inl rfl)) (a_cons (e_var (i := 7) rfl (.inl rfl)) a_nil)))
    (ss_one (s_ret e_str)))) ss_nil)
    (ss_cons (s_if (c_cmp o_lt s_cmp (e_cb call_len s_len rfl T.b_len bl_len (a_cons (e_comp (own := [("voice", 11)]) rfl sc_law_due.nd (blkOk_by (own := [("voice", 11)]) (N := N_law_due) (sc := defScope s_law_due) (by decide +kernel)) (by decide) (g_nm 11) (i_any (e_var (i := 10) rfl (.inl rfl))) (fun _ _ _ _ _ => (pg_name (i := 11) sc_law_due.nd rfl (by exact .inl rfl))) (fun _ _ _ _ _ => (ts_one (c_w (w_and (c_cmp (o_eq hr.units) s_eq (e_ix (e_var (i := 11) rfl (by exact .inl rfl)) e_int (fun _ _ => rfl)) (e_var (i := 8) rfl (by exact .inr (.inl rfl))) (nomark _)) (w_and1 (c_cmp o_notIn s_notIn (e_ix (e_var (i := 11) rfl (by exact .inl rfl)) e_int (fun _ _ => rfl)) (e_var (i := 3) rfl (by exact .inr (.inl rfl))) rfl)))))) (fun _ _ _ _ _ => e_int)) a_nil)) (e_var (i := 4) rfl (.inl rfl)) (nomark _)) (ss_one (s_ret e_str)) ss_nil)
    (ss_cons (s_dsub hr.units (e_var (i := 8) rfl (.inr (.inl rfl))) (e_var (i := 1) rfl (.inl rfl)) (e_var (i := 6) rfl (.inl rfl)))
    (ss_cons (s_for (passes_of rfl) rfl (pg_name (i := 11) sc_law_due.nd rfl (.inl rfl)) (g_nm 11) (i_any (e_var (i := 10) rfl (.inl rfl))) (ss_one (s_if (c_cmp (o_ne hr.units) s_ne (e_ix (e_var (i := 11) rfl (.inl rfl)) e_int (fun _ _ => rfl)) (e_var (i := 8) rfl (.inr (.inl rfl))) (nomark _)) (ss_one (s_exp (e_met PySem.F.plainAttrs_list PySem.F.slot_list_append PySem.F.type_list_append mt_append s_append (e_var (i := 2) rfl (.inl rfl)) (a_cons (e_ix (e_var (i := 11) rfl (.inl rfl)) e_int (fun _ _ => rfl)) a_nil)))) ss_nil)))
    (ss_one (s_ret e_str))))))))))
theorem okmt_Roster_counts (T : Txt wd K mg) : OkM P wd K mg base "Roster" "counts" 2 4 Mi.m_Roster_counts := OkM.mk' (k := 1) (b := Mi.b_Roster_counts) T.hm_Roster_counts sc_Roster_counts rfl rfl rfl fun f cdv A outer s H E hr =>
  (ss_one (s_ret (e_and (e_cmp (o_eq hr.units) s_eq (e_dget1 hr.units (e_fld T.a_Roster__signed (e_var (i := 0) rfl (.inl rfl))) (e_var (i := 1) rfl (.inl rfl)) ⟨rfl, rfl, rfl, rfl⟩) (e_tup (a_cons (e_var (i := 2) rfl (.inl rfl)) (a_cons (e_var (i := 3) rfl (.inl rfl)) a_nil))) (nomark _)) (e_one (e_not (e_meth (okmt_Roster_is_revoked T) hr (by decide) (L2N.takes_of rfl rfl rfl rfl) (e_var (i := 0) rfl (.inl rfl)) (a_cons (e_var (i := 2) rfl (.inl rfl)) a_nil) (fun env h ds h' e => congrArg (· + 1) ((mCons_len mNil_len) env h ds h' e))))))))
theorem okmt_Roster__supporters (T : Txt wd K mg) : OkM P wd K mg base "Roster" "_supporters" 2 3 Mi.m_Roster__supporters := OkM.mk' (k := 1) (b := Mi.b_Roster__supporters) T.hm_Roster__supporters sc_Roster__supporters rfl rfl rfl fun f cdv A outer s H E hr =>
  (ss_cons (s_set (i := 3) sc_Roster__supporters.nd rfl (.inr rfl) (e_dget hr.units (e_fld T.a_Roster__voices (e_var (i := 0) rfl (.inr (.inl rfl)))) (e_var (i := 1) rfl (.inl rfl)) (fun _ _ => rfl)))
    (ss_one (s_ret (e_lok (i := 3) (e_comp (own := [("house", 4)]) rfl sc_Roster__supporters.nd (blkOk_by (own := [("house", 4)]) (N := N_Roster__supporters) (sc := defScope s_Roster__supporters) (by decide +kernel)) (by decide) (g_nm 4) (i_keys (i := 3) rfl (.inr (.inl rfl))) (fun _ _ _ _ _ => (pg_name (i := 4) sc_Roster__supporters.nd rfl (by exact .inl rfl))) (fun _ _ _ _ _ => (ts_one (c_w (w_and (c_cmp (o_eq hr.units) s_eq (e_ix (e_dgetL hr.units (e_var (i := 3) rfl (by exact .inr (.inl rfl))) (e_var (i := 4) rfl (by exact .inl rfl)) (fun _ _ => rfl)) e_int (fun _ _ => rfl)) (e_var (i := 2) rfl (by exact .inr (.inl rfl))) (nomark _)) (w_and1 (c_not (c_val (e_meth (okmt_Roster_is_revoked T) hr (by decide) none_out (e_var (i := 0) rfl (by exact .inr (.inl rfl))) (a_cons (e_var (i := 4) rfl (by exact .inl rfl)) a_nil) (fun env h ds h' e => congrArg (· + 1) ((mCons_len mNil_len) env h ds h' e)))))))))) (fun _ _ _ _ _ => (e_var (i := 4) rfl (by exact .inl rfl))))))))
theorem okmt_Roster_add (T : Txt wd K mg) : OkM P wd K mg base "Roster" "add" 3 2 Mi.m_Roster_add := OkM.mk' (k := 2) (b := Mi.b_Roster_add) T.hm_Roster_add sc_Roster_add rfl rfl rfl fun f cdv A outer s H E hr =>
  (ss_cons (s_if (c_cmp (op_din hr.units) s_din (e_var (i := 1) rfl (.inl rfl)) (e_fld T.a_Roster__houses (e_var (i := 0) rfl (.inl rfl))) rfl) (ss_one (s_raiseF (ok_ini_RosterProblem T) hr (by first | decide | omega) rfl (L2N.takes_of rfl rfl rfl rfl) rfl (a_cons e_str a_nil))) ss_nil)
    (ss_cons (s_if (c_cmp (o_eq hr.units) s_eq (e_cb call_lenD s_dlen rfl T.b_len bl_len (a_cons (e_fld T.a_Roster__houses (e_var (i := 0) rfl (.inl rfl))) a_nil)) (e_gint T.g_MOST_HOUSES rfl) (nomark _)) (ss_one (s_raiseF (ok_ini_RosterProblem T) hr (by first | decide | omega) rfl (L2N.takes_of rfl rfl rfl rfl) rfl (a_cons e_str a_nil))) ss_nil)
    (ss_cons (s_dsub hr.units e_bl (e_fld T.a_Roster__houses (e_var (i := 0) rfl (.inl rfl))) (e_var (i := 1) rfl (.inl rfl)))
    (ss_one (s_dsub hr.units e_int (e_fld T.a_Roster__strikes (e_var (i := 0) rfl (.inl rfl))) (e_var (i := 1) rfl (.inl rfl)))))))
theorem okmt_Roster_tell (T : Txt wd K mg) : OkM P wd K mg base "Roster" "tell" 3 5 Mi.m_Roster_tell := OkM.mk' (k := 2) (b := Mi.b_Roster_tell) T.hm_Roster_tell sc_Roster_tell rfl rfl rfl fun f cdv A outer s H E hr =>
  (ss_cons (s_if (c_not (c_val (e_meth (okmt_Roster_counts T) hr (by decide) (L2N.takes_of rfl rfl rfl rfl) (e_var (i := 0) rfl (.inl rfl)) (a_cons (e_var (i := 4) rfl (.inl rfl)) (a_cons (e_var (i := 2) rfl (.inl rfl)) (a_cons (e_f (ok_words_of T) hr (by decide) (L2N.takes_of rfl rfl rfl rfl) (a_cons (e_var (i := 1) rfl (.inl rfl)) (a_cons (e_var (i := 3) rfl (.inl rfl)) a_nil)) (mCons_len (mCons_len mNil_len)) rfl) a_nil))) (fun env h ds h' e => congrArg (· + 1) ((mCons_len (mCons_len (mCons_len mNil_len))) env h ds h' e))))) (ss_one (s_ret e_str)) ss_nil)
    (ss_cons (s_if (c_val (e_meth (okmt_Roster_has_voice T) hr (by decide) (L2N.takes_of rfl rfl rfl rfl) (e_var (i := 0) rfl (.inl rfl)) (a_cons (e_var (i := 1) rfl (.inl rfl)) (a_cons (e_var (i := 2) rfl (.inl rfl)) a_nil)) (fun env h ds h' e => congrArg (· + 1) ((mCons_len (mCons_len mNil_len)) env h ds h' e)))) (ss_one (s_ret (e_meth (okmt_Roster__tell_again T) hr (by decide) (L2N.takes_of rfl rfl rfl rfl) (e_var (i := 0) rfl (.inl rfl)) (a_cons (e_var (i := 1) rfl (.inl rfl)) (a_cons (e_var (i := 2) rfl (.inl rfl)) (a_cons (e_var (i := 3) rfl (.inl rfl)) a_nil))) (fun env h ds h' e => congrArg (· + 1) ((mCons_len (mCons_len (mCons_len mNil_len))) env h ds h' e))))) ss_nil)
    (ss_cons (s_set (i := 5) sc_Roster_tell.nd rfl (.inl rfl) (e_meth (okmt_Roster_claim_of T) hr (by decide) (L2N.takes_of rfl rfl rfl rfl) (e_var (i := 0) rfl (.inl rfl)) (a_cons (e_var (i := 1) rfl (.inl rfl)) a_nil) (fun env h ds h' e => congrArg (· + 1) ((mCons_len mNil_len) env h ds h' e))))
    (ss_cons (s_set (i := 6) sc_Roster_tell.nd rfl (.inl rfl) (e_dsetd (e_fld T.a_Roster__voices (e_var (i := 0) rfl (.inl rfl))) (e_var (i := 1) rfl (.inl rfl)) e_dnew ⟨rfl, rfl, rfl, rfl⟩))
    (ss_cons (s_dsub hr.units (e_tup (a_cons (e_var (i := 3) rfl (.inl rfl)) (a_cons (e_var (i := 4) rfl (.inl rfl)) a_nil))) (e_var (i := 6) rfl (.inl rfl)) (e_var (i := 2) rfl (.inl rfl)))
    (ss_cons (s_if (c_w (w_and (c_cmp op_notN s_isNot (e_var (i := 5) rfl (.inl rfl)) e_non (nomark _)) (w_and1 (c_cmp (o_ne hr.units) s_ne (e_var (i := 5) rfl (.inl rfl)) (e_var (i := 3) rfl (.inl rfl)) (nomark _))))) (ss_cons (s_daug hr.units (e_fld T.a_Roster__strikes (e_var (i := 0) rfl (.inl rfl))) (e_var (i := 2) rfl (.inl rfl)) e_int)
    (ss_one (s_ret e_str))) ss_nil)
    (ss_cons (s_if (c_cmp op_notN s_isNot (e_var (i := 5) rfl (.inl rfl)) e_non (nomark _)) (ss_one (s_ret e_str)) ss_nil)
    (ss_cons (s_if (c_cmp o_lt s_cmp (e_cb call_len s_len rfl T.b_len bl_len (a_cons (e_meth (okmt_Roster__supporters T) hr (by decide) (L2N.takes_of rfl rfl rfl rfl) (e_var (i := 0) rfl (.inl rfl)) (a_cons (e_var (i := 1) rfl (.inl rfl)) (a_cons (e_var (i := 3) rfl (.inl rfl)) a_nil)) (fun env h ds h' e => congrArg (· + 1) ((mCons_len (mCons_len mNil_len)) env h ds h' e))) a_nil)) (e_fld T.a_Roster_need (e_var (i := 0) rfl (.inl rfl))) (nomark _)) (ss_one (s_ret e_str)) ss_nil)
    (ss_cons (s_exp (e_meth (okmt_Roster__settle T) hr (by decide) (L2N.takes_of rfl rfl rfl rfl) (e_var (i := 0) rfl (.inl rfl)) (a_cons (e_var (i := 1) rfl (.inl rfl)) (a_cons (e_var (i := 3) rfl (.inl rfl)) a_nil)) (fun env h ds h' e => congrArg (· + 1) ((mCons_len (mCons_len mNil_len)) env h ds h' e))))
    (ss_one (s_ret e_str)))))))))))
theorem okmt_Roster_strikes (T : Txt wd K mg) : OkM P wd K mg base "Roster" "strikes" 3 2 Mi.m_Roster_strikes := OkM.mk' (k := 2) (b := Mi.b_Roster_strikes) T.hm_Roster_strikes sc_Roster_strikes rfl rfl rfl fun f cdv A outer s H E hr =>
  (ss_cons (s_if (c_cmp (op_dnotin hr.units) s_dnotin (e_var (i := 1) rfl (.inl rfl)) (e_fld T.a_Roster__houses (e_var (i := 0) rfl (.inl rfl))) rfl) (ss_one (s_raiseF (ok_ini_RosterProblem T) hr (by first | decide | omega) rfl (L2N.takes_of rfl rfl rfl rfl) rfl (a_cons e_str a_nil))) ss_nil)
    (ss_one (s_ret (e_dget hr.units (e_fld T.a_Roster__strikes (e_var (i := 0) rfl (.inl rfl))) (e_var (i := 1) rfl (.inl rfl)) (fun _ _ => rfl)))))
theorem okmt_Roster__check (T : Txt wd K mg) : OkM P wd K mg base "Roster" "_check" 3 2 Mi.m_Roster__check := OkM.mk' (k := 2) (b := Mi.b_Roster__check) T.hm_Roster__check sc_Roster__check rfl rfl rfl fun f cdv A outer s H E hr =>
  (ss_cons (s_if (c_cmp (op_dnotin hr.units) s_dnotin (e_var (i := 1) rfl (.inl rfl)) (e_fld T.a_Roster__houses (e_var (i := 0) rfl (.inl rfl))) rfl) (ss_one (s_raiseF (ok_ini_RosterProblem T) hr (by first | decide | omega) rfl (L2N.takes_of rfl rfl rfl rfl) rfl (a_cons e_str a_nil))) ss_nil)
    (ss_one (s_if (c_val (e_dget hr.units (e_fld T.a_Roster__houses (e_var (i := 0) rfl (.inl rfl))) (e_var (i := 1) rfl (.inl rfl)) (fun _ _ => rfl))) (ss_one (s_raiseF (ok_ini_RosterProblem T) hr (by first | decide | omega) rfl (L2N.takes_of rfl rfl rfl rfl) rfl (a_cons e_str a_nil))) ss_nil)))
theorem okmt_Roster_sign (T : Txt wd K mg) : OkM P wd K mg base "Roster" "sign" 4 3 Mi.m_Roster_sign := OkM.mk' (k := 3) (b := Mi.b_Roster_sign) T.hm_Roster_sign sc_Roster_sign rfl rfl rfl fun f cdv A outer s H E hr =>
  (ss_cons (s_exp (e_meth (okmt_Roster__check T) hr (by decide) (L2N.takes_of rfl rfl rfl rfl) (e_var (i := 0) rfl (.inl rfl)) (a_cons (e_var (i := 1) rfl (.inl rfl)) a_nil) (fun env h ds h' e => congrArg (· + 1) ((mCons_len mNil_len) env h ds h' e))))
    (ss_cons (s_set (i := 3) sc_Roster_sign.nd rfl (.inl rfl) (e_js (.cons (e_fm (e_var (i := 1) rfl (.inl rfl))) (.cons e_str (.cons (e_fm (e_bin o_add s_add (e_cb call_lenD s_dlen rfl T.b_len bl_len (a_cons (e_fld T.a_Roster__signed (e_var (i := 0) rfl (.inl rfl))) a_nil)) e_int)) .nil)))))
    (ss_cons (s_dsub hr.units (e_tup (a_cons (e_var (i := 1) rfl (.inl rfl)) (a_cons (e_var (i := 2) rfl (.inl rfl)) a_nil))) (e_fld T.a_Roster__signed (e_var (i := 0) rfl (.inl rfl))) (e_var (i := 3) rfl (.inl rfl)))
    (ss_one (s_ret (e_var (i := 3) rfl (.inl rfl)))))))
theorem okmt_Roster_revoke (T : Txt wd K mg) : OkM P wd K mg base "Roster" "revoke" 4 2 Mi.m_Roster_revoke := OkM.mk' (k := 3) (b := Mi.b_Roster_revoke) T.hm_Roster_revoke sc_Roster_revoke rfl rfl rfl fun f cdv A outer s H E hr =>
  (ss_cons (s_exp (e_meth (okmt_Roster__check T) hr (by decide) (L2N.takes_of rfl rfl rfl rfl) (e_var (i := 0) rfl (.inl rfl)) (a_cons (e_var (i := 1) rfl (.inl rfl)) a_nil) (fun env h ds h' e => congrArg (· + 1) ((mCons_len mNil_len) env h ds h' e))))
    (ss_one (s_dsub hr.units e_bl (e_fld T.a_Roster__houses (e_var (i := 0) rfl (.inl rfl))) (e_var (i := 1) rfl (.inl rfl)))))
theorem ok_law_houses (T : Txt wd K mg) : OkF P wd K mg base "_law_houses" 4 2 Mi.m_law_houses := OkF.mk' (k := 3) (b := Mi.b_law_houses) T.h_law_houses sc_law_houses rfl rfl rfl fun f cdv A outer s H E hr =>
  (ss_cons (s_setC (i := 2) (own := [("k", 4)]) rfl sc_law_houses.nd rfl rfl (sw_true rfl rfl rfl (by decide +kernel)) (blkOk_by (own := [("k", 4)]) (N := N_law_houses) (sc := defScope s_law_houses) (by decide +kernel)) (by decide) (g_nm 4) (i_rng1 T.b_range rfl (a_cons (e_var (i := 1) rfl (.inl rfl)) a_nil)) (fun _ _ _ _ _ => (pg_name (i := 4) sc_law_houses.nd rfl (by exact .inl rfl))) (fun _ _ _ _ _ => ts_nil) (fun _ _ _ _ _ => (e_bin o_add s_add e_str (e_cty call_str_int s_str rfl T.b_str bl_str (a_cons (e_var (i := 4) rfl (by exact .inl rfl)) a_nil)))))
    (ss_cons (s_for (passes_of rfl) rfl (pg_name (i := 3) sc_law_houses.nd rfl (.inl rfl)) (g_nm 3) (i_any (e_var (i := 2) rfl (.inl rfl))) (ss_one (s_exp (e_meth (okmt_Roster_add T) hr (by decide) (L2N.takes_of rfl rfl rfl rfl) (e_var (i := 0) rfl (.inl rfl)) (a_cons (e_var (i := 3) rfl (.inl rfl)) a_nil) (fun env h ds h' e => congrArg (· + 1) ((mCons_len mNil_len) env h ds h' e))))))
    (ss_one (s_ret (e_var (i := 2) rfl (.inl rfl))))))
theorem ok_law_same (T : Txt wd K mg) : ∀ n : Nat, OkF P wd K mg base "_law_same" (1 + n) 2 (Mi.mm_law_same n)
  | 0 => OkF.zero (k := 1) T.h_law_same rfl
  | n + 1 => OkF.mk' (k := 1 + n) (b := Mi.b_law_same (Mi.mm_law_same n)) T.h_law_same sc_law_same rfl rfl rfl fun f cdv A outer s H E hr =>
  (ss_cons (s_if (c_cmp op_isN s_is (e_var (i := 1) rfl (.inl rfl)) e_non (nomark _)) (ss_one (s_ret (e_cmp op_isN s_is (e_var (i := 0) rfl (.inl rfl)) e_non (nomark _)))) ss_nil)
    (ss_cons (s_if (c_val (e_cb call_isi s_isi rfl T.b_isinstance bl_isinstance (a_cons (e_var (i := 1) rfl (.inl rfl)) (a_cons (e_ty T.b_tuple bl_tuple rfl) a_nil)))) (ss_cons (s_if (c_w (w_or (c_not (c_val (e_cb call_isi s_isi rfl T.b_isinstance bl_isinstance (a_cons (e_var (i := 0) rfl (.inl rfl)) (a_cons (e_ty T.b_tuple bl_tuple rfl) a_nil))))) (w_or1 (c_cmp (o_ne hr.units) s_ne (e_cb call_len s_len rfl T.b_len bl_len (a_cons (e_var (i := 0) rfl (.inl rfl)) a_nil)) (e_cb call_len s_len rfl T.b_len bl_len (a_cons (e_var (i := 1) rfl (.inl rfl)) a_nil)) (nomark _))))) (ss_one (s_ret e_bl)) ss_nil)
    (ss_cons (s_for (passes_of rfl) rfl (pg_name (i := 2) sc_law_same.nd rfl (.inl rfl)) (g_nm 2) (i_rng1 T.b_range rfl (a_cons (e_cb call_len s_len rfl T.b_len bl_len (a_cons (e_var (i := 1) rfl (.inl rfl)) a_nil)) a_nil)) (ss_one (s_if (c_not (c_val (e_f (ok_law_same T n) hr (by omega) (L2N.takes_of rfl rfl rfl rfl) (a_cons (e_ix (e_var (i := 0) rfl (.inl rfl)) (e_var (i := 2) rfl (.inl rfl)) (fun _ _ => rfl)) (a_cons (e_ix (e_var (i := 1) rfl (.inl rfl)) (e_var (i := 2) rfl (.inl rfl)) (fun _ _ => rfl)) a_nil)) (mCons_len (mCons_len mNil_len)) rfl))) (ss_one (s_ret e_bl)) ss_nil)))
    (ss_one (s_ret e_bl)))) ss_nil)
    (ss_cons (s_if (c_val (e_cb call_isi s_isi rfl T.b_isinstance bl_isinstance (a_cons (e_var (i := 1) rfl (.inl rfl)) (a_cons (e_ty T.b_bool bl_bool rfl) a_nil)))) (ss_one (s_ret (e_and (e_cb call_isi s_isi rfl T.b_isinstance bl_isinstance (a_cons (e_var (i := 0) rfl (.inl rfl)) (a_cons (e_ty T.b_bool bl_bool rfl) a_nil))) (e_one (e_cmp (o_eq hr.units) s_eq (e_var (i := 0) rfl (.inl rfl)) (e_var (i := 1) rfl (.inl rfl)) (nomark _)))))) ss_nil)
    (ss_cons (s_if (c_val (e_cb call_isi s_isi rfl T.b_isinstance bl_isinstance (a_cons (e_var (i := 1) rfl (.inl rfl)) (a_cons (e_ty T.b_int bl_int rfl) a_nil)))) (ss_one (s_ret (e_and (e_cb call_isi s_isi rfl T.b_isinstance bl_isinstance (a_cons (e_var (i := 0) rfl (.inl rfl)) (a_cons (e_ty T.b_int bl_int rfl) a_nil))) (e_and (e_not (e_cb call_isi s_isi rfl T.b_isinstance bl_isinstance (a_cons (e_var (i := 0) rfl (.inl rfl)) (a_cons (e_ty T.b_bool bl_bool rfl) a_nil)))) (e_one (e_cmp (o_eq hr.units) s_eq (e_var (i := 0) rfl (.inl rfl)) (e_var (i := 1) rfl (.inl rfl)) (nomark _))))))) ss_nil)
    (ss_one (s_ret (e_and (e_cb call_isi s_isi rfl T.b_isinstance bl_isinstance (a_cons (e_var (i := 0) rfl (.inl rfl)) (a_cons (e_ty T.b_str bl_str rfl) a_nil))) (e_one (e_cmp (o_eq hr.units) s_eq (e_var (i := 0) rfl (.inl rfl)) (e_var (i := 1) rfl (.inl rfl)) (nomark _))))))))))
theorem okm_law_same (T : Txt wd K mg) : OkF P wd K mg base "_law_same" 13 2 Mi.m_law_same := ok_law_same T 12
theorem ok_law_told (T : Txt wd K mg) : OkF P wd K mg base "_law_told" 14 5 Mi.m_law_told_6 := OkF.mk' (k := 13) (b := Mi.b_law_told_6) T.h_law_told sc_law_told rfl rfl rfl fun f cdv A outer s H E hr =>
  (ss_cons (s_lokG (g := (gVr 1)) (s_for (passes_of rfl) rfl (pg_name (i := 5) sc_law_told.nd rfl (.inl rfl)) (g_nm 5) (i_keysE (e_var (i := 1) rfl (.inl rfl))) (ss_cons (s_set (i := 6) sc_law_told.nd rfl (.inr rfl) (e_dget2 hr.units (e_var (i := 2) rfl (.inl rfl)) (e_var (i := 5) rfl (.inl rfl)) e_non ⟨rfl, rfl, rfl, rfl⟩))
    (ss_cons (s_if (c_not (c_val (e_f (okm_law_same T) hr (by decide) (L2N.takes_of rfl rfl rfl rfl) (a_cons (e_meth (okmt_Roster_claim_of T) hr (by decide) (L2N.takes_of rfl rfl rfl rfl) (e_var (i := 0) rfl (.inl rfl)) (a_cons (e_var (i := 5) rfl (.inl rfl)) a_nil) (fun env h ds h' e => congrArg (· + 1) ((mCons_len mNil_len) env h ds h' e))) (a_cons (e_var (i := 6) rfl (.inr (.inl rfl))) a_nil)) (mCons_len (mCons_len mNil_len)) rfl))) (ss_one (s_ret e_bl)) ss_nil)
    (ss_cons (s_set (i := 7) sc_law_told.nd rfl (.inl rfl) (e_tup a_nil))
    (ss_cons (s_if (c_cmp op_notN s_isNot (e_var (i := 6) rfl (.inr (.inl rfl))) e_non (nomark _)) (ss_one (s_set (i := 7) sc_law_told.nd rfl (.inl rfl) (e_cty call_tuple_of s_tupleOf rfl T.b_tuple bl_tuple (a_cons (e_comp (own := [("voice", 11)]) rfl sc_law_told.nd (blkOk_by (own := [("voice", 11)]) (N := N_law_told) (sc := defScope s_law_told) (by decide +kernel)) (by decide) (g_nm 11) (i_any (e_dgetL hr.units (e_var (i := 1) rfl (.inl rfl)) (e_var (i := 5) rfl (.inl rfl)) (fun _ _ => rfl))) (fun _ _ _ _ _ => (pg_name (i := 11) sc_law_told.nd rfl (by exact .inl rfl))) (fun _ _ _ _ _ => (ts_one (c_cmp (o_eq hr.units) s_eq (e_ix (e_var (i := 11) rfl (by exact .inl rfl)) e_int (fun _ _ => rfl)) (e_var (i := 6) rfl (by exact .inr (.inl rfl))) (nomark _)))) (fun _ _ _ _ _ => (e_tup (a_cons (e_ix (e_var (i := 11) rfl (by exact .inl rfl)) e_int (fun _ _ => rfl)) (a_cons (e_ix (e_var (i := 11) rfl (by exact .inl rfl)) e_int (fun _ _ => rfl)) a_nil))))) a_nil)))) ss_nil)
    (ss_cons (s_if (c_not (c_val (e_f (okm_law_same T) hr (by decide) (L2N.takes_of rfl rfl rfl rfl) (a_cons (e_meth (okmt_Roster_vouchers T) hr (by decide) (L2N.takes_of rfl rfl rfl rfl) (e_var (i := 0) rfl (.inl rfl)) (a_cons (e_var (i := 5) rfl (.inl rfl)) a_nil) (fun env h ds h' e => congrArg (· + 1) ((mCons_len mNil_len) env h ds h' e))) (a_cons (e_var (i := 7) rfl (.inl rfl)) a_nil)) (mCons_len (mCons_len mNil_len)) rfl))) (ss_one (s_ret e_bl)) ss_nil)
    (ss_one (s_for (passes_of rfl) rfl (pg_name (i := 8) sc_law_told.nd rfl (.inl rfl)) (g_nm 8) (i_any (e_var (i := 4) rfl (.inl rfl))) (ss_cons (s_set (i := 9) sc_law_told.nd rfl (.inl rfl) (e_cmp o_in s_in (e_var (i := 8) rfl (.inl rfl)) (e_comp (own := [("voice", 11)]) rfl sc_law_told.nd (blkOk_by (own := [("voice", 11)]) (N := N_law_told) (sc := defScope s_law_told) (by decide +kernel)) (by decide) (g_nm 11) (i_any (e_dgetL hr.units (e_var (i := 1) rfl (.inl rfl)) (e_var (i := 5) rfl (.inl rfl)) (fun _ _ => rfl))) (fun _ _ _ _ _ => (pg_name (i := 11) sc_law_told.nd rfl (by exact .inl rfl))) (fun _ _ _ _ _ => ts_nil) (fun _ _ _ _ _ => (e_ix (e_var (i := 11) rfl (by exact .inl rfl)) e_int (fun _ _ => rfl)))) rfl))
    (ss_one (s_if (c_not (c_val (e_f (ok_law_yes T) hr (by decide) (L2N.takes_of rfl rfl rfl rfl) (a_cons (e_meth (okmt_Roster_has_voice T) hr (by decide) (L2N.takes_of rfl rfl rfl rfl) (e_var (i := 0) rfl (.inl rfl)) (a_cons (e_var (i := 5) rfl (.inl rfl)) (a_cons (e_var (i := 8) rfl (.inl rfl)) a_nil)) (fun env h ds h' e => congrArg (· + 1) ((mCons_len (mCons_len mNil_len)) env h ds h' e))) (a_cons (e_var (i := 9) rfl (.inl rfl)) a_nil)) (mCons_len (mCons_len mNil_len)) rfl))) (ss_one (s_ret e_bl)) ss_nil))))))))))))
    (ss_cons (s_for (passes_of rfl) rfl (pg_name (i := 8) sc_law_told.nd rfl (.inl rfl)) (g_nm 8) (i_any (e_var (i := 4) rfl (.inl rfl))) (ss_one (s_if (c_not (c_val (e_f (okm_law_same T) hr (by decide) (L2N.takes_of rfl rfl rfl rfl) (a_cons (e_meth (okmt_Roster_strikes T) hr (by decide) (L2N.takes_of rfl rfl rfl rfl) (e_var (i := 0) rfl (.inl rfl)) (a_cons (e_var (i := 8) rfl (.inl rfl)) a_nil) (fun env h ds h' e => congrArg (· + 1) ((mCons_len mNil_len) env h ds h' e))) (a_cons (e_met PySem.F.plainAttrs_list PySem.F.slot_list_count PySem.F.type_list_count mt_cntT s_cntT.met (e_var (i := 3) rfl (.inl rfl)) (a_cons (e_var (i := 8) rfl (.inl rfl)) a_nil)) a_nil)) (mCons_len (mCons_len mNil_len)) rfl))) (ss_one (s_ret e_bl)) ss_nil)))
    (ss_cons (s_tryAs (i := 10) rfl rfl sc_law_told.nd rfl rfl rfl (L2N.takes_of rfl rfl rfl rfl) T.k_RosterProblem (fun W1 pn1 xe1 tk1 hp1 => (ss_one (s_exp (e_meth (okmt_Roster_strikes T) hr (by decide) tk1 (e_var (i := 0) rfl (.inl rfl)) (a_cons e_str a_nil) (fun env h ds h' e => congrArg (· + 1) ((mCons_len mNil_len) env h ds h' e)))))) (fun c1 hc1 cv1 fs a oe d pn hm1 hz1 hf1 => by
    simp only [List.mem_cons, List.not_mem_nil, or_false] at hc1
    rcases hc1 with rfl
    · obtain ⟨C0, hC0, q0⟩ := T.q_RosterProblem
      cases hm1.symm.trans hC0
      exact (ss_one' (ss_ret (sp_call (okhm_law_same T) hr (by first | decide | omega) hz1 hf1 (sa_cons (sp_xf (T.x_RosterProblem hC0) (T.f_RosterProblem_reason hC0) hz1.zc hf1 (i := 10) rfl (.inl rfl)) (sa_cons (sp_of e_str) (sa_of a_nil))) (mCons_len (mCons_len mNil_len)) rfl)))))
    (ss_one (s_ret e_bl)))))
theorem okfn_law {f : Addr} {fd : FuncData} (T : Txt wd K mg) (F : Fun K "law" "law" s_law f fd) : FnOk P wd K mg base (L2N.CX P wd) 15 f fd ["script"] (spM K mg 1 Mi.m_law_31) := okfn' (k := 14) (b := Mi.b_law_31) F sc_law rfl rfl rfl fun cdv A outer s H E hr =>
  (ss_cons (s_set (i := 1) sc_law.nd rfl (.inl rfl) (e_cel (a_cons e_int (a_cons e_int (a_cons e_int a_nil)))))
    (ss_cons (s_set (i := 2) sc_law.nd rfl (.inl rfl) (e_bin o_add s_add e_int (e_f (ok_law_next T) hr (by decide) (L2N.takes_of rfl rfl rfl rfl) (a_cons (e_var (i := 1) rfl (.inl rfl)) (a_cons (e_var (i := 0) rfl (.inl rfl)) (a_cons e_int a_nil))) (mCons_len (mCons_len (mCons_len mNil_len))) rfl)))
    (ss_cons (s_set (i := 3) sc_law.nd rfl (.inl rfl) (e_make (okc_Roster T) hr (by decide) (a_cons (e_var (i := 2) rfl (.inl rfl)) a_nil) (fun env h ds h' e => congrArg (· + 1) ((mCons_len mNil_len) env h ds h' e)) rfl))
    (ss_cons (s_set (i := 4) sc_law.nd rfl (.inl rfl) (e_f (ok_law_houses T) hr (by decide) (L2N.takes_of rfl rfl rfl rfl) (a_cons (e_var (i := 3) rfl (.inl rfl)) (a_cons e_int a_nil)) (mCons_len (mCons_len mNil_len)) rfl))
    (ss_cons (s_set (i := 5) sc_law.nd rfl (.inl rfl) (e_disp ["t", "u", "made\n"] [(mCel mNil), (mCel mNil), (mCel mNil)] (pps_cons pe_str (e_cel a_nil) (pps_cons pe_str (e_cel a_nil) (pps_cons pe_str (e_cel a_nil) pps_nil))) rfl rfl rfl (by simp) (by decide)))
    (ss_cons (s_set (i := 6) sc_law.nd rfl (.inl rfl) (e_lst (a_cons e_str (a_cons e_str (a_cons e_str a_nil)))))
    (ss_cons (s_set (i := 7) sc_law.nd rfl (.inl rfl) e_dnew)
    (ss_cons (s_set (i := 8) sc_law.nd rfl (.inl rfl) (e_cel a_nil))
    (ss_cons (s_set (i := 9) sc_law.nd rfl (.inl rfl) (e_cel a_nil))
    (ss_cons (s_set (i := 10) sc_law.nd rfl (.inl rfl) (e_cel a_nil))
    (ss_cons (s_for (passes_of rfl) rfl (pg_name (i := 11) sc_law.nd rfl (.inl rfl)) (g_nm 11) (i_rng1 T.b_range rfl (a_cons (e_f (ok_law_next T) hr (by decide) (L2N.takes_of rfl rfl rfl rfl) (a_cons (e_var (i := 1) rfl (.inl rfl)) (a_cons (e_var (i := 0) rfl (.inl rfl)) (a_cons e_int a_nil))) (mCons_len (mCons_len (mCons_len mNil_len))) rfl) a_nil)) (ss_cons (s_set (i := 12) sc_law.nd rfl (.inl rfl) (e_ix (e_var (i := 6) rfl (.inl rfl)) (e_f (ok_law_next T) hr (by decide) (L2N.takes_of rfl rfl rfl rfl) (a_cons (e_var (i := 1) rfl (.inl rfl)) (a_cons (e_var (i := 0) rfl (.inl rfl)) (a_cons e_int a_nil))) (mCons_len (mCons_len (mCons_len mNil_len))) rfl) (fun _ _ => rfl)))
    (ss_cons (s_set (i := 13) sc_law.nd rfl (.inl rfl) (e_ix (e_var (i := 4) rfl (.inl rfl)) (e_f (ok_law_next T) hr (by decide) (L2N.takes_of rfl rfl rfl rfl) (a_cons (e_var (i := 1) rfl (.inl rfl)) (a_cons (e_var (i := 0) rfl (.inl rfl)) (a_cons e_int a_nil))) (mCons_len (mCons_len (mCons_len mNil_len))) rfl) (fun _ _ => rfl)))
    (ss_cons (s_set (i := 14) sc_law.nd rfl (.inl rfl) (e_ix (e_lst (a_cons e_str (a_cons e_str (a_cons e_str a_nil)))) (e_f (ok_law_next T) hr (by decide) (L2N.takes_of rfl rfl rfl rfl) (a_cons (e_var (i := 1) rfl (.inl rfl)) (a_cons (e_var (i := 0) rfl (.inl rfl)) (a_cons e_int a_nil))) (mCons_len (mCons_len (mCons_len mNil_len))) rfl) (fun _ _ => rfl)))
    (ss_cons (s_set (i := 15) sc_law.nd rfl (.inl rfl) (e_f (ok_law_next T) hr (by decide) (L2N.takes_of rfl rfl rfl rfl) (a_cons (e_var (i := 1) rfl (.inl rfl)) (a_cons (e_var (i := 0) rfl (.inl rfl)) (a_cons e_int a_nil))) (mCons_len (mCons_len (mCons_len mNil_len))) rfl))
    (ss_cons (s_if (c_w (w_and (c_cmp (o_eq hr.units) s_eq (e_var (i := 15) rfl (.inl rfl)) e_int (nomark _)) (w_and1 (c_cmp o_notIn s_notIn (e_var (i := 13) rfl (.inl rfl)) (e_var (i := 9) rfl (.inl rfl)) rfl)))) (ss_cons (s_exp (e_meth (okmt_Roster_revoke T) hr (by decide) (L2N.takes_of rfl rfl rfl rfl) (e_var (i := 3) rfl (.inl rfl)) (a_cons (e_var (i := 13) rfl (.inl rfl)) a_nil) (fun env h ds h' e => congrArg (· + 1) ((mCons_len mNil_len) env h ds h' e))))
    (ss_one (s_exp (e_met PySem.F.plainAttrs_list PySem.F.slot_list_append PySem.F.type_list_append mt_append s_append (e_var (i := 9) rfl (.inl rfl)) (a_cons (e_var (i := 13) rfl (.inl rfl)) a_nil))))) ss_nil)
    (ss_cons (s_set (i := 16) sc_law.nd rfl (.inl rfl) e_str)
    (ss_cons (s_if (c_w (w_and (c_cmp o_lt s_cmp (e_var (i := 15) rfl (.inl rfl)) e_int (nomark _)) (w_and1 (c_cmp o_gt s_cmp (e_cb call_len s_len rfl T.b_len bl_len (a_cons (e_var (i := 10) rfl (.inl rfl)) a_nil)) e_int (nomark _))))) (ss_one (s_set (i := 16) sc_law.nd rfl (.inl rfl) (e_ix (e_ix (e_var (i := 10) rfl (.inl rfl)) (e_f (ok_law_next T) hr (by decide) (L2N.takes_of rfl rfl rfl rfl) (a_cons (e_var (i := 1) rfl (.inl rfl)) (a_cons (e_var (i := 0) rfl (.inl rfl)) (a_cons (e_cb call_len s_len rfl T.b_len bl_len (a_cons (e_var (i := 10) rfl (.inl rfl)) a_nil)) a_nil))) (mCons_len (mCons_len (mCons_len mNil_len))) rfl) (fun _ _ => rfl)) e_int (fun _ _ => rfl)))) (ss_one (s_if (c_cmp (o_eq hr.units) s_eq (e_var (i := 15) rfl (.inl rfl)) e_int (nomark _)) (ss_one (s_set (i := 16) sc_law.nd rfl (.inl rfl) (e_ix (e_lst (a_cons (e_bin o_add s_add (e_bin o_add s_add (e_var (i := 13) rfl (.inl rfl)) e_str) (e_cty call_str_int s_str rfl T.b_str bl_str (a_cons (e_bin o_add s_add (e_cb call_len s_len rfl T.b_len bl_len (a_cons (e_var (i := 10) rfl (.inl rfl)) a_nil)) e_int) a_nil))) (a_cons e_str (a_cons e_str (a_cons (e_bin o_add s_add (e_var (i := 13) rfl (.inl rfl)) e_str) (a_cons (e_var (i := 13) rfl (.inl rfl)) (a_cons (e_bin o_add s_add (e_var (i := 13) rfl (.inl rfl)) e_str) a_nil))))))) (e_f (ok_law_next T) hr (by decide) (L2N.takes_of rfl rfl rfl rfl) (a_cons (e_var (i := 1) rfl (.inl rfl)) (a_cons (e_var (i := 0) rfl (.inl rfl)) (a_cons e_int a_nil))) (mCons_len (mCons_len (mCons_len mNil_len))) rfl) (fun _ _ => rfl)))) (ss_one (s_if (c_cmp o_notIn s_notIn (e_var (i := 13) rfl (.inl rfl)) (e_var (i := 9) rfl (.inl rfl)) rfl) (ss_cons (s_set (i := 16) sc_law.nd rfl (.inl rfl) (e_meth (okmt_Roster_sign T) hr (by decide) (L2N.takes_of rfl rfl rfl rfl) (e_var (i := 3) rfl (.inl rfl)) (a_cons (e_var (i := 13) rfl (.inl rfl)) (a_cons (e_f (ok_law_words_of T) hr (by decide) (L2N.takes_of rfl rfl rfl rfl) (a_cons (e_var (i := 12) rfl (.inl rfl)) (a_cons (e_var (i := 14) rfl (.inl rfl)) a_nil)) (mCons_len (mCons_len mNil_len)) rfl) a_nil)) (fun env h ds h' e => congrArg (· + 1) ((mCons_len (mCons_len mNil_len)) env h ds h' e))))
    (ss_cons (s_exp (e_met PySem.F.plainAttrs_list PySem.F.slot_list_append PySem.F.type_list_append mt_append s_append (e_var (i := 10) rfl (.inl rfl)) (a_cons (e_tup (a_cons (e_var (i := 16) rfl (.inl rfl)) (a_cons (e_var (i := 13) rfl (.inl rfl)) (a_cons (e_var (i := 12) rfl (.inl rfl)) (a_cons (e_var (i := 14) rfl (.inl rfl)) a_nil))))) a_nil)))
    (ss_one (s_if (c_not (c_val (e_f (okm_law_same T) hr (by decide) (L2N.takes_of rfl rfl rfl rfl) (a_cons (e_var (i := 16) rfl (.inl rfl)) (a_cons (e_bin o_add s_add (e_bin o_add s_add (e_var (i := 13) rfl (.inl rfl)) e_str) (e_cty call_str_int s_str rfl T.b_str bl_str (a_cons (e_cb call_len s_len rfl T.b_len bl_len (a_cons (e_var (i := 10) rfl (.inl rfl)) a_nil)) a_nil))) a_nil)) (mCons_len (mCons_len mNil_len)) rfl))) (ss_one (s_ret e_bl)) ss_nil)))) ss_nil)))))
    (ss_cons (s_set (i := 17) sc_law.nd rfl (.inl rfl) e_str)
    (ss_cons (s_if (c_w (w_and (c_cmp (op_inD (units65 hr)) s_inD (e_tup (a_cons (e_var (i := 16) rfl (.inl rfl)) (a_cons (e_var (i := 13) rfl (.inl rfl)) (a_cons (e_var (i := 12) rfl (.inl rfl)) (a_cons (e_var (i := 14) rfl (.inl rfl)) a_nil))))) (e_var (i := 10) rfl (.inl rfl)) rfl) (w_and1 (c_cmp o_notIn s_notIn (e_var (i := 13) rfl (.inl rfl)) (e_var (i := 9) rfl (.inl rfl)) rfl)))) (ss_one (s_set (i := 17) sc_law.nd rfl (.inl rfl) (e_f (ok_law_due T) hr (by decide) (L2N.takes_of rfl rfl rfl rfl) (a_cons (e_var (i := 5) rfl (.inl rfl)) (a_cons (e_var (i := 7) rfl (.inl rfl)) (a_cons (e_var (i := 8) rfl (.inl rfl)) (a_cons (e_var (i := 9) rfl (.inl rfl)) (a_cons (e_var (i := 2) rfl (.inl rfl)) (a_cons (e_tup (a_cons (e_var (i := 12) rfl (.inl rfl)) (a_cons (e_var (i := 13) rfl (.inl rfl)) (a_cons (e_var (i := 14) rfl (.inl rfl)) (a_cons (e_var (i := 16) rfl (.inl rfl)) a_nil))))) a_nil)))))) (mCons_len (mCons_len (mCons_len (mCons_len (mCons_len (mCons_len mNil_len)))))) rfl))) ss_nil)
    (ss_cons (s_if (c_not (c_val (e_f (okm_law_same T) hr (by decide) (L2N.takes_of rfl rfl rfl rfl) (a_cons (e_meth (okmt_Roster_tell T) hr (by decide) (L2N.takes_of rfl rfl rfl rfl) (e_var (i := 3) rfl (.inl rfl)) (a_cons (e_var (i := 12) rfl (.inl rfl)) (a_cons (e_var (i := 13) rfl (.inl rfl)) (a_cons (e_var (i := 14) rfl (.inl rfl)) (a_cons (e_var (i := 16) rfl (.inl rfl)) a_nil)))) (fun env h ds h' e => congrArg (· + 1) ((mCons_len (mCons_len (mCons_len (mCons_len mNil_len)))) env h ds h' e))) (a_cons (e_var (i := 17) rfl (.inl rfl)) a_nil)) (mCons_len (mCons_len mNil_len)) rfl))) (ss_one (s_ret e_bl)) ss_nil)
    (ss_one (s_if (c_w (w_and (c_cmp (o_eq hr.units) s_eq (e_bin op_modN s_mod (e_var (i := 11) rfl (.inl rfl)) e_int) e_int (nomark _)) (w_and1 (c_not (c_val (e_f (ok_law_told T) hr (by decide) (L2N.takes_of rfl rfl rfl rfl) (a_cons (e_var (i := 3) rfl (.inl rfl)) (a_cons (e_var (i := 5) rfl (.inl rfl)) (a_cons (e_var (i := 7) rfl (.inl rfl)) (a_cons (e_var (i := 8) rfl (.inl rfl)) (a_cons (e_var (i := 4) rfl (.inl rfl)) a_nil))))) (mCons_len (mCons_len (mCons_len (mCons_len (mCons_len mNil_len))))) rfl)))))) (ss_one (s_ret e_bl)) ss_nil)))))))))))))
    (ss_one (s_ret (e_f (ok_law_told T) hr (by decide) (L2N.takes_of rfl rfl rfl rfl) (a_cons (e_var (i := 3) rfl (.inl rfl)) (a_cons (e_var (i := 5) rfl (.inl rfl)) (a_cons (e_var (i := 7) rfl (.inl rfl)) (a_cons (e_var (i := 8) rfl (.inl rfl)) (a_cons (e_var (i := 4) rfl (.inl rfl)) a_nil))))) (mCons_len (mCons_len (mCons_len (mCons_len (mCons_len mNil_len))))) rfl))))))))))))))
end
theorem end_ {l : PySem.W.OpenLaw} {w : World} {K : PySem.W.Frag} {h : Heap} {mg : Str → Option Value} {fa : Addr} (X : K.In h) (G : h.Ns mainGlobals mg) (hfa : mg "law" = some (.ref fa))
    {f1 : Addr} {oc1 kV1 dc1 pm1 cd1 ct1 : Value} {od1 an1 : Option Addr} {sl1 : Array (Option Value)}
    {f2 : Addr} {oc2 kV2 dc2 pm2 cd2 ct2 : Value} {od2 an2 : Option Addr} {sl2 : Array (Option Value)}
    {f3 : Addr} {oc3 kV3 dc3 pm3 cd3 ct3 : Value} {od3 an3 : Option Addr} {sl3 : Array (Option Value)}
    {f4 : Addr} {oc4 kV4 dc4 pm4 cd4 ct4 : Value} {od4 an4 : Option Addr} {sl4 : Array (Option Value)}
    {f5 : Addr} {oc5 kV5 dc5 pm5 cd5 ct5 : Value} {od5 an5 : Option Addr} {sl5 : Array (Option Value)}
    {f6 : Addr} {oc6 kV6 dc6 pm6 cd6 ct6 : Value} {od6 an6 : Option Addr} {sl6 : Array (Option Value)}
    {f7 : Addr} {oc7 kV7 dc7 pm7 cd7 ct7 : Value} {od7 an7 : Option Addr} {sl7 : Array (Option Value)}
    {f8 : Addr} {oc8 kV8 dc8 pm8 cd8 ct8 : Value} {od8 an8 : Option Addr} {sl8 : Array (Option Value)}
    {t_MOST_HOUSES : Tok}
    {cz_RosterProblem : Addr}
    {ci_RosterProblem : Addr} {co_RosterProblem ck_RosterProblem cd1_RosterProblem cp_RosterProblem cc_RosterProblem ct_RosterProblem : Value} {cod_RosterProblem can_RosterProblem : Option Addr} {csl_RosterProblem : Array (Option Value)} {cnm_RosterProblem cq_RosterProblem : Str} {cN_RosterProblem : Addr} {cbs_RosterProblem cbm_RosterProblem : List Value} {csn_RosterProblem : List Str} {csu_RosterProblem : List Value} {cab_RosterProblem : Bool} {ccl_RosterProblem : Option Bool} {cdd_RosterProblem : Option Addr} {cm0_RosterProblem cm1_RosterProblem cm2_RosterProblem cm3_RosterProblem cm5_RosterProblem : Option Value}
    {cz_Roster : Addr}
    {mf_Roster_init : Addr} {mo_Roster_init mk_Roster_init md_Roster_init mp_Roster_init mc_Roster_init mt_Roster_init : Value} {mod_Roster_init man_Roster_init : Option Addr} {msl_Roster_init : Array (Option Value)}
    {mf_Roster_add : Addr} {mo_Roster_add mk_Roster_add md_Roster_add mp_Roster_add mc_Roster_add mt_Roster_add : Value} {mod_Roster_add man_Roster_add : Option Addr} {msl_Roster_add : Array (Option Value)}
    {mf_Roster_sign : Addr} {mo_Roster_sign mk_Roster_sign md_Roster_sign mp_Roster_sign mc_Roster_sign mt_Roster_sign : Value} {mod_Roster_sign man_Roster_sign : Option Addr} {msl_Roster_sign : Array (Option Value)}
    {mf_Roster_revoke : Addr} {mo_Roster_revoke mk_Roster_revoke md_Roster_revoke mp_Roster_revoke mc_Roster_revoke mt_Roster_revoke : Value} {mod_Roster_revoke man_Roster_revoke : Option Addr} {msl_Roster_revoke : Array (Option Value)}
    {mf_Roster_is_revoked : Addr} {mo_Roster_is_revoked mk_Roster_is_revoked md_Roster_is_revoked mp_Roster_is_revoked mc_Roster_is_revoked mt_Roster_is_revoked : Value} {mod_Roster_is_revoked man_Roster_is_revoked : Option Addr} {msl_Roster_is_revoked : Array (Option Value)}
    {mf_Roster_counts : Addr} {mo_Roster_counts mk_Roster_counts md_Roster_counts mp_Roster_counts mc_Roster_counts mt_Roster_counts : Value} {mod_Roster_counts man_Roster_counts : Option Addr} {msl_Roster_counts : Array (Option Value)}
    {mf_Roster_tell : Addr} {mo_Roster_tell mk_Roster_tell md_Roster_tell mp_Roster_tell mc_Roster_tell mt_Roster_tell : Value} {mod_Roster_tell man_Roster_tell : Option Addr} {msl_Roster_tell : Array (Option Value)}
    {mf_Roster_claim_of : Addr} {mo_Roster_claim_of mk_Roster_claim_of md_Roster_claim_of mp_Roster_claim_of mc_Roster_claim_of mt_Roster_claim_of : Value} {mod_Roster_claim_of man_Roster_claim_of : Option Addr} {msl_Roster_claim_of : Array (Option Value)}
    {mf_Roster_has_voice : Addr} {mo_Roster_has_voice mk_Roster_has_voice md_Roster_has_voice mp_Roster_has_voice mc_Roster_has_voice mt_Roster_has_voice : Value} {mod_Roster_has_voice man_Roster_has_voice : Option Addr} {msl_Roster_has_voice : Array (Option Value)}
    {mf_Roster_vouchers : Addr} {mo_Roster_vouchers mk_Roster_vouchers md_Roster_vouchers mp_Roster_vouchers mc_Roster_vouchers mt_Roster_vouchers : Value} {mod_Roster_vouchers man_Roster_vouchers : Option Addr} {msl_Roster_vouchers : Array (Option Value)}
    {mf_Roster_strikes : Addr} {mo_Roster_strikes mk_Roster_strikes md_Roster_strikes mp_Roster_strikes mc_Roster_strikes mt_Roster_strikes : Value} {mod_Roster_strikes man_Roster_strikes : Option Addr} {msl_Roster_strikes : Array (Option Value)}
    {mf_Roster__check : Addr} {mo_Roster__check mk_Roster__check md_Roster__check mp_Roster__check mc_Roster__check mt_Roster__check : Value} {mod_Roster__check man_Roster__check : Option Addr} {msl_Roster__check : Array (Option Value)}
    {mf_Roster__tell_again : Addr} {mo_Roster__tell_again mk_Roster__tell_again md_Roster__tell_again mp_Roster__tell_again mc_Roster__tell_again mt_Roster__tell_again : Value} {mod_Roster__tell_again man_Roster__tell_again : Option Addr} {msl_Roster__tell_again : Array (Option Value)}
    {mf_Roster__supporters : Addr} {mo_Roster__supporters mk_Roster__supporters md_Roster__supporters mp_Roster__supporters mc_Roster__supporters mt_Roster__supporters : Value} {mod_Roster__supporters man_Roster__supporters : Option Addr} {msl_Roster__supporters : Array (Option Value)}
    {mf_Roster__settle : Addr} {mo_Roster__settle mk_Roster__settle md_Roster__settle mp_Roster__settle mc_Roster__settle mt_Roster__settle : Value} {mod_Roster__settle man_Roster__settle : Option Addr} {msl_Roster__settle : Array (Option Value)}
    {f0 : Addr} {oc0 kV0 dc0 pm0 cd0 ct0 : Value} {od0 an0 : Option Addr} {sl0 : Array (Option Value)}
    (a0 : PySem.W.nsIn K mainGlobals "law" = some (some (.ref f0))) (l0 : K.lookup f0 = some ⟨oc0, od0, .func (PySem.W.fnOf "law" "law" (defArgs s_law) (defBody s_law) (defScope s_law) .none kV0 dc0 pm0 an0 cd0 ct0), sl0⟩) (c0 : PySem.W.codeIn K cd0 "law" = true) (k0 : PySem.W.keepIn K (.ref f0) = true)
    (a1 : PySem.W.nsIn K mainGlobals "words_of" = some (some (.ref f1))) (l1 : K.lookup f1 = some ⟨oc1, od1, .func (PySem.W.fnOf "words_of" "words_of" (defArgs s_words_of) (defBody s_words_of) (defScope s_words_of) .none kV1 dc1 pm1 an1 cd1 ct1), sl1⟩) (c1 : PySem.W.codeIn K cd1 "words_of" = true) (k1 : PySem.W.keepIn K (.ref f1) = true)
    (a2 : PySem.W.nsIn K mainGlobals "_law_next" = some (some (.ref f2))) (l2 : K.lookup f2 = some ⟨oc2, od2, .func (PySem.W.fnOf "_law_next" "_law_next" (defArgs s_law_next) (defBody s_law_next) (defScope s_law_next) .none kV2 dc2 pm2 an2 cd2 ct2), sl2⟩) (c2 : PySem.W.codeIn K cd2 "_law_next" = true) (k2 : PySem.W.keepIn K (.ref f2) = true)
    (a3 : PySem.W.nsIn K mainGlobals "_law_yes" = some (some (.ref f3))) (l3 : K.lookup f3 = some ⟨oc3, od3, .func (PySem.W.fnOf "_law_yes" "_law_yes" (defArgs s_law_yes) (defBody s_law_yes) (defScope s_law_yes) .none kV3 dc3 pm3 an3 cd3 ct3), sl3⟩) (c3 : PySem.W.codeIn K cd3 "_law_yes" = true) (k3 : PySem.W.keepIn K (.ref f3) = true)
    (a4 : PySem.W.nsIn K mainGlobals "_law_words_of" = some (some (.ref f4))) (l4 : K.lookup f4 = some ⟨oc4, od4, .func (PySem.W.fnOf "_law_words_of" "_law_words_of" (defArgs s_law_words_of) (defBody s_law_words_of) (defScope s_law_words_of) .none kV4 dc4 pm4 an4 cd4 ct4), sl4⟩) (c4 : PySem.W.codeIn K cd4 "_law_words_of" = true) (k4 : PySem.W.keepIn K (.ref f4) = true)
    (a5 : PySem.W.nsIn K mainGlobals "_law_due" = some (some (.ref f5))) (l5 : K.lookup f5 = some ⟨oc5, od5, .func (PySem.W.fnOf "_law_due" "_law_due" (defArgs s_law_due) (defBody s_law_due) (defScope s_law_due) .none kV5 dc5 pm5 an5 cd5 ct5), sl5⟩) (c5 : PySem.W.codeIn K cd5 "_law_due" = true) (k5 : PySem.W.keepIn K (.ref f5) = true)
    (a6 : PySem.W.nsIn K mainGlobals "_law_houses" = some (some (.ref f6))) (l6 : K.lookup f6 = some ⟨oc6, od6, .func (PySem.W.fnOf "_law_houses" "_law_houses" (defArgs s_law_houses) (defBody s_law_houses) (defScope s_law_houses) .none kV6 dc6 pm6 an6 cd6 ct6), sl6⟩) (c6 : PySem.W.codeIn K cd6 "_law_houses" = true) (k6 : PySem.W.keepIn K (.ref f6) = true)
    (a7 : PySem.W.nsIn K mainGlobals "_law_same" = some (some (.ref f7))) (l7 : K.lookup f7 = some ⟨oc7, od7, .func (PySem.W.fnOf "_law_same" "_law_same" (defArgs s_law_same) (defBody s_law_same) (defScope s_law_same) .none kV7 dc7 pm7 an7 cd7 ct7), sl7⟩) (c7 : PySem.W.codeIn K cd7 "_law_same" = true) (k7 : PySem.W.keepIn K (.ref f7) = true)
    (a8 : PySem.W.nsIn K mainGlobals "_law_told" = some (some (.ref f8))) (l8 : K.lookup f8 = some ⟨oc8, od8, .func (PySem.W.fnOf "_law_told" "_law_told" (defArgs s_law_told) (defBody s_law_told) (defScope s_law_told) .none kV8 dc8 pm8 an8 cd8 ct8), sl8⟩) (c8 : PySem.W.codeIn K cd8 "_law_told" = true) (k8 : PySem.W.keepIn K (.ref f8) = true)
    (z_abs : PySem.W.nsIn K mainGlobals "abs" = some none)
    (z_bool : PySem.W.nsIn K mainGlobals "bool" = some none)
    (z_int : PySem.W.nsIn K mainGlobals "int" = some none)
    (z_isinstance : PySem.W.nsIn K mainGlobals "isinstance" = some none)
    (z_len : PySem.W.nsIn K mainGlobals "len" = some none)
    (z_range : PySem.W.nsIn K mainGlobals "range" = some none)
    (z_str : PySem.W.nsIn K mainGlobals "str" = some none)
    (z_tuple : PySem.W.nsIn K mainGlobals "tuple" = some none)
    (q_MOST_HOUSES : PySem.W.nsIn K mainGlobals "MOST_HOUSES" = some (some (.int 20 t_MOST_HOUSES)))
    (cn_RosterProblem : PySem.W.nsIn K mainGlobals "RosterProblem" = some (some (.ref cz_RosterProblem)))
    (ic_RosterProblem : (PySem.W.clsIn K cz_RosterProblem).isSome = true)
    (ga_RosterProblem : PySem.W.findIn K (.ref cz_RosterProblem) "__getattribute__" = some (some (.builtin "BaseException.__getattribute__")))
    (gt_RosterProblem : PySem.W.findIn K (.ref cz_RosterProblem) "__getattr__" = some none)
    (sb_RosterProblem : PySem.W.subIn K (.ref cz_RosterProblem) (.type "BaseException") = some true)
    (gc_RosterProblem : PySem.W.findIn K (.ref cz_RosterProblem) "__class__" = some (some (.builtin "object.__class__")))
    (spc : PySem.W.specialIn K (.builtin "object.__class__") "__get__" = some (some (.builtin "getset_descriptor.__get__")))
    (tkc : PySem.W.takesIn K (.builtin "object.__class__") = some true)
    (mr_RosterProblem : PySem.W.mroIn K cz_RosterProblem (.type "object") = some true)
    (hd_RosterProblem : PySem.W.hasDictIn K cz_RosterProblem = true)
    (ty_RosterProblem : PySem.W.typeIn K (.ref cz_RosterProblem) = some (.type "type"))
    (su_RosterProblem_RosterProblem : PySem.W.subIn K (.ref cz_RosterProblem) (.ref cz_RosterProblem) = some true)
    (nf_RosterProblem_reason : PySem.W.findIn K (.ref cz_RosterProblem) "reason" = some none)
    (xl_RosterProblem : K.lookup cz_RosterProblem = some (excClassObj cnm_RosterProblem cq_RosterProblem cz_RosterProblem cN_RosterProblem cbs_RosterProblem cbm_RosterProblem true csn_RosterProblem csu_RosterProblem cab_RosterProblem ccl_RosterProblem cdd_RosterProblem cm0_RosterProblem cm1_RosterProblem cm2_RosterProblem cm3_RosterProblem cm5_RosterProblem "ValueError.__new__"))
    (xr_RosterProblem : PySem.HandSPX.refsVE cbm_RosterProblem = true)
    (sa_RosterProblem : PySem.W.findIn K (.ref cz_RosterProblem) "__setattr__" = some (some (.builtin "object.__setattr__")))
    (kp_RosterProblem : PySem.W.keepIn K (.ref cz_RosterProblem) = true)
    (in_RosterProblem : PySem.W.findIn K (.ref cz_RosterProblem) "__init__" = some (some (.ref ci_RosterProblem)))
    (it_RosterProblem : PySem.W.typeIn K (.ref ci_RosterProblem) = some (.type "function"))
    (il_RosterProblem : K.lookup ci_RosterProblem = some ⟨co_RosterProblem, cod_RosterProblem, .func (PySem.W.fnOf "__init__" "RosterProblem.__init__" (defArgs si_RosterProblem) (defBody si_RosterProblem) (defScope si_RosterProblem) .none ck_RosterProblem cd1_RosterProblem cp_RosterProblem can_RosterProblem cc_RosterProblem ct_RosterProblem), csl_RosterProblem⟩)
    (ik_RosterProblem : PySem.W.codeIn K cc_RosterProblem "RosterProblem.__init__" = true)
    (ikp_RosterProblem : PySem.W.keepIn K (.ref ci_RosterProblem) = true)
    (cn_Roster : PySem.W.nsIn K mainGlobals "Roster" = some (some (.ref cz_Roster)))
    (pg_Roster : PySem.W.plainGet K cz_Roster Str.empty = true)
    (hd_Roster : PySem.W.hasDictIn K cz_Roster = true)
    (po_Roster : PySem.W.plainOver K cz_Roster = true)
    (sas_Roster : PySem.W.findIn K (.ref cz_Roster) "__setattr__" = some (some (.builtin "object.__setattr__")))
    (ma_Roster_init : PySem.W.findIn K (.ref cz_Roster) "__init__" = some (some (.ref mf_Roster_init)))
    (mi_Roster_init : PySem.W.isFn K (.ref mf_Roster_init) = true)
    (ml_Roster_init : K.lookup mf_Roster_init = some ⟨mo_Roster_init, mod_Roster_init, .func (PySem.W.fnOf "__init__" "Roster.__init__" (defArgs s_Roster_init) (defBody s_Roster_init) (defScope s_Roster_init) .none mk_Roster_init md_Roster_init mp_Roster_init man_Roster_init mc_Roster_init mt_Roster_init), msl_Roster_init⟩)
    (mcd_Roster_init : PySem.W.codeIn K mc_Roster_init "Roster.__init__" = true)
    (mkp_Roster_init : PySem.W.keepIn K (.ref mf_Roster_init) = true)
    (mk_Roster : PySem.W.makesIn K cz_Roster = true)
    (kc_Roster : PySem.W.keepIn K (.ref cz_Roster) = true)
    (ma_Roster_add : PySem.W.findIn K (.ref cz_Roster) "add" = some (some (.ref mf_Roster_add)))
    (mi_Roster_add : PySem.W.isFn K (.ref mf_Roster_add) = true)
    (ml_Roster_add : K.lookup mf_Roster_add = some ⟨mo_Roster_add, mod_Roster_add, .func (PySem.W.fnOf "add" "Roster.add" (defArgs s_Roster_add) (defBody s_Roster_add) (defScope s_Roster_add) .none mk_Roster_add md_Roster_add mp_Roster_add man_Roster_add mc_Roster_add mt_Roster_add), msl_Roster_add⟩)
    (mcd_Roster_add : PySem.W.codeIn K mc_Roster_add "Roster.add" = true)
    (mkp_Roster_add : PySem.W.keepIn K (.ref mf_Roster_add) = true)
    (ma_Roster_sign : PySem.W.findIn K (.ref cz_Roster) "sign" = some (some (.ref mf_Roster_sign)))
    (mi_Roster_sign : PySem.W.isFn K (.ref mf_Roster_sign) = true)
    (ml_Roster_sign : K.lookup mf_Roster_sign = some ⟨mo_Roster_sign, mod_Roster_sign, .func (PySem.W.fnOf "sign" "Roster.sign" (defArgs s_Roster_sign) (defBody s_Roster_sign) (defScope s_Roster_sign) .none mk_Roster_sign md_Roster_sign mp_Roster_sign man_Roster_sign mc_Roster_sign mt_Roster_sign), msl_Roster_sign⟩)
    (mcd_Roster_sign : PySem.W.codeIn K mc_Roster_sign "Roster.sign" = true)
    (mkp_Roster_sign : PySem.W.keepIn K (.ref mf_Roster_sign) = true)
    (ma_Roster_revoke : PySem.W.findIn K (.ref cz_Roster) "revoke" = some (some (.ref mf_Roster_revoke)))
    (mi_Roster_revoke : PySem.W.isFn K (.ref mf_Roster_revoke) = true)
    (ml_Roster_revoke : K.lookup mf_Roster_revoke = some ⟨mo_Roster_revoke, mod_Roster_revoke, .func (PySem.W.fnOf "revoke" "Roster.revoke" (defArgs s_Roster_revoke) (defBody s_Roster_revoke) (defScope s_Roster_revoke) .none mk_Roster_revoke md_Roster_revoke mp_Roster_revoke man_Roster_revoke mc_Roster_revoke mt_Roster_revoke), msl_Roster_revoke⟩)
    (mcd_Roster_revoke : PySem.W.codeIn K mc_Roster_revoke "Roster.revoke" = true)
    (mkp_Roster_revoke : PySem.W.keepIn K (.ref mf_Roster_revoke) = true)
    (ma_Roster_is_revoked : PySem.W.findIn K (.ref cz_Roster) "is_revoked" = some (some (.ref mf_Roster_is_revoked)))
    (mi_Roster_is_revoked : PySem.W.isFn K (.ref mf_Roster_is_revoked) = true)
    (ml_Roster_is_revoked : K.lookup mf_Roster_is_revoked = some ⟨mo_Roster_is_revoked, mod_Roster_is_revoked, .func (PySem.W.fnOf "is_revoked" "Roster.is_revoked" (defArgs s_Roster_is_revoked) (defBody s_Roster_is_revoked) (defScope s_Roster_is_revoked) .none mk_Roster_is_revoked md_Roster_is_revoked mp_Roster_is_revoked man_Roster_is_revoked mc_Roster_is_revoked mt_Roster_is_revoked), msl_Roster_is_revoked⟩)
    (mcd_Roster_is_revoked : PySem.W.codeIn K mc_Roster_is_revoked "Roster.is_revoked" = true)
    (mkp_Roster_is_revoked : PySem.W.keepIn K (.ref mf_Roster_is_revoked) = true)
    (ma_Roster_counts : PySem.W.findIn K (.ref cz_Roster) "counts" = some (some (.ref mf_Roster_counts)))
    (mi_Roster_counts : PySem.W.isFn K (.ref mf_Roster_counts) = true)
    (ml_Roster_counts : K.lookup mf_Roster_counts = some ⟨mo_Roster_counts, mod_Roster_counts, .func (PySem.W.fnOf "counts" "Roster.counts" (defArgs s_Roster_counts) (defBody s_Roster_counts) (defScope s_Roster_counts) .none mk_Roster_counts md_Roster_counts mp_Roster_counts man_Roster_counts mc_Roster_counts mt_Roster_counts), msl_Roster_counts⟩)
    (mcd_Roster_counts : PySem.W.codeIn K mc_Roster_counts "Roster.counts" = true)
    (mkp_Roster_counts : PySem.W.keepIn K (.ref mf_Roster_counts) = true)
    (ma_Roster_tell : PySem.W.findIn K (.ref cz_Roster) "tell" = some (some (.ref mf_Roster_tell)))
    (mi_Roster_tell : PySem.W.isFn K (.ref mf_Roster_tell) = true)
    (ml_Roster_tell : K.lookup mf_Roster_tell = some ⟨mo_Roster_tell, mod_Roster_tell, .func (PySem.W.fnOf "tell" "Roster.tell" (defArgs s_Roster_tell) (defBody s_Roster_tell) (defScope s_Roster_tell) .none mk_Roster_tell md_Roster_tell mp_Roster_tell man_Roster_tell mc_Roster_tell mt_Roster_tell), msl_Roster_tell⟩)
    (mcd_Roster_tell : PySem.W.codeIn K mc_Roster_tell "Roster.tell" = true)
    (mkp_Roster_tell : PySem.W.keepIn K (.ref mf_Roster_tell) = true)
    (ma_Roster_claim_of : PySem.W.findIn K (.ref cz_Roster) "claim_of" = some (some (.ref mf_Roster_claim_of)))
    (mi_Roster_claim_of : PySem.W.isFn K (.ref mf_Roster_claim_of) = true)
    (ml_Roster_claim_of : K.lookup mf_Roster_claim_of = some ⟨mo_Roster_claim_of, mod_Roster_claim_of, .func (PySem.W.fnOf "claim_of" "Roster.claim_of" (defArgs s_Roster_claim_of) (defBody s_Roster_claim_of) (defScope s_Roster_claim_of) .none mk_Roster_claim_of md_Roster_claim_of mp_Roster_claim_of man_Roster_claim_of mc_Roster_claim_of mt_Roster_claim_of), msl_Roster_claim_of⟩)
    (mcd_Roster_claim_of : PySem.W.codeIn K mc_Roster_claim_of "Roster.claim_of" = true)
    (mkp_Roster_claim_of : PySem.W.keepIn K (.ref mf_Roster_claim_of) = true)
    (ma_Roster_has_voice : PySem.W.findIn K (.ref cz_Roster) "has_voice" = some (some (.ref mf_Roster_has_voice)))
    (mi_Roster_has_voice : PySem.W.isFn K (.ref mf_Roster_has_voice) = true)
    (ml_Roster_has_voice : K.lookup mf_Roster_has_voice = some ⟨mo_Roster_has_voice, mod_Roster_has_voice, .func (PySem.W.fnOf "has_voice" "Roster.has_voice" (defArgs s_Roster_has_voice) (defBody s_Roster_has_voice) (defScope s_Roster_has_voice) .none mk_Roster_has_voice md_Roster_has_voice mp_Roster_has_voice man_Roster_has_voice mc_Roster_has_voice mt_Roster_has_voice), msl_Roster_has_voice⟩)
    (mcd_Roster_has_voice : PySem.W.codeIn K mc_Roster_has_voice "Roster.has_voice" = true)
    (mkp_Roster_has_voice : PySem.W.keepIn K (.ref mf_Roster_has_voice) = true)
    (ma_Roster_vouchers : PySem.W.findIn K (.ref cz_Roster) "vouchers" = some (some (.ref mf_Roster_vouchers)))
    (mi_Roster_vouchers : PySem.W.isFn K (.ref mf_Roster_vouchers) = true)
    (ml_Roster_vouchers : K.lookup mf_Roster_vouchers = some ⟨mo_Roster_vouchers, mod_Roster_vouchers, .func (PySem.W.fnOf "vouchers" "Roster.vouchers" (defArgs s_Roster_vouchers) (defBody s_Roster_vouchers) (defScope s_Roster_vouchers) .none mk_Roster_vouchers md_Roster_vouchers mp_Roster_vouchers man_Roster_vouchers mc_Roster_vouchers mt_Roster_vouchers), msl_Roster_vouchers⟩)
    (mcd_Roster_vouchers : PySem.W.codeIn K mc_Roster_vouchers "Roster.vouchers" = true)
    (mkp_Roster_vouchers : PySem.W.keepIn K (.ref mf_Roster_vouchers) = true)
    (ma_Roster_strikes : PySem.W.findIn K (.ref cz_Roster) "strikes" = some (some (.ref mf_Roster_strikes)))
    (mi_Roster_strikes : PySem.W.isFn K (.ref mf_Roster_strikes) = true)
    (ml_Roster_strikes : K.lookup mf_Roster_strikes = some ⟨mo_Roster_strikes, mod_Roster_strikes, .func (PySem.W.fnOf "strikes" "Roster.strikes" (defArgs s_Roster_strikes) (defBody s_Roster_strikes) (defScope s_Roster_strikes) .none mk_Roster_strikes md_Roster_strikes mp_Roster_strikes man_Roster_strikes mc_Roster_strikes mt_Roster_strikes), msl_Roster_strikes⟩)
    (mcd_Roster_strikes : PySem.W.codeIn K mc_Roster_strikes "Roster.strikes" = true)
    (mkp_Roster_strikes : PySem.W.keepIn K (.ref mf_Roster_strikes) = true)
    (ma_Roster__check : PySem.W.findIn K (.ref cz_Roster) "_check" = some (some (.ref mf_Roster__check)))
    (mi_Roster__check : PySem.W.isFn K (.ref mf_Roster__check) = true)
    (ml_Roster__check : K.lookup mf_Roster__check = some ⟨mo_Roster__check, mod_Roster__check, .func (PySem.W.fnOf "_check" "Roster._check" (defArgs s_Roster__check) (defBody s_Roster__check) (defScope s_Roster__check) .none mk_Roster__check md_Roster__check mp_Roster__check man_Roster__check mc_Roster__check mt_Roster__check), msl_Roster__check⟩)
    (mcd_Roster__check : PySem.W.codeIn K mc_Roster__check "Roster._check" = true)
    (mkp_Roster__check : PySem.W.keepIn K (.ref mf_Roster__check) = true)
    (ma_Roster__tell_again : PySem.W.findIn K (.ref cz_Roster) "_tell_again" = some (some (.ref mf_Roster__tell_again)))
    (mi_Roster__tell_again : PySem.W.isFn K (.ref mf_Roster__tell_again) = true)
    (ml_Roster__tell_again : K.lookup mf_Roster__tell_again = some ⟨mo_Roster__tell_again, mod_Roster__tell_again, .func (PySem.W.fnOf "_tell_again" "Roster._tell_again" (defArgs s_Roster__tell_again) (defBody s_Roster__tell_again) (defScope s_Roster__tell_again) .none mk_Roster__tell_again md_Roster__tell_again mp_Roster__tell_again man_Roster__tell_again mc_Roster__tell_again mt_Roster__tell_again), msl_Roster__tell_again⟩)
    (mcd_Roster__tell_again : PySem.W.codeIn K mc_Roster__tell_again "Roster._tell_again" = true)
    (mkp_Roster__tell_again : PySem.W.keepIn K (.ref mf_Roster__tell_again) = true)
    (ma_Roster__supporters : PySem.W.findIn K (.ref cz_Roster) "_supporters" = some (some (.ref mf_Roster__supporters)))
    (mi_Roster__supporters : PySem.W.isFn K (.ref mf_Roster__supporters) = true)
    (ml_Roster__supporters : K.lookup mf_Roster__supporters = some ⟨mo_Roster__supporters, mod_Roster__supporters, .func (PySem.W.fnOf "_supporters" "Roster._supporters" (defArgs s_Roster__supporters) (defBody s_Roster__supporters) (defScope s_Roster__supporters) .none mk_Roster__supporters md_Roster__supporters mp_Roster__supporters man_Roster__supporters mc_Roster__supporters mt_Roster__supporters), msl_Roster__supporters⟩)
    (mcd_Roster__supporters : PySem.W.codeIn K mc_Roster__supporters "Roster._supporters" = true)
    (mkp_Roster__supporters : PySem.W.keepIn K (.ref mf_Roster__supporters) = true)
    (ma_Roster__settle : PySem.W.findIn K (.ref cz_Roster) "_settle" = some (some (.ref mf_Roster__settle)))
    (mi_Roster__settle : PySem.W.isFn K (.ref mf_Roster__settle) = true)
    (ml_Roster__settle : K.lookup mf_Roster__settle = some ⟨mo_Roster__settle, mod_Roster__settle, .func (PySem.W.fnOf "_settle" "Roster._settle" (defArgs s_Roster__settle) (defBody s_Roster__settle) (defScope s_Roster__settle) .none mk_Roster__settle md_Roster__settle mp_Roster__settle man_Roster__settle mc_Roster__settle mt_Roster__settle), msl_Roster__settle⟩)
    (mcd_Roster__settle : PySem.W.codeIn K mc_Roster__settle "Roster._settle" = true)
    (mkp_Roster__settle : PySem.W.keepIn K (.ref mf_Roster__settle) = true)
    (na_Roster__claims : PySem.W.findIn K (.ref cz_Roster) "_claims" = some none)
    (na_Roster__houses : PySem.W.findIn K (.ref cz_Roster) "_houses" = some none)
    (na_Roster__signed : PySem.W.findIn K (.ref cz_Roster) "_signed" = some none)
    (na_Roster__strikes : PySem.W.findIn K (.ref cz_Roster) "_strikes" = some none)
    (na_Roster__voices : PySem.W.findIn K (.ref cz_Roster) "_voices" = some none)
    (na_Roster_need : PySem.W.findIn K (.ref cz_Roster) "need" = some none)
    : ∃ fd : FuncData, (∀ (s : Shared) (v : Value), BindsTo s fd ⟨[v], []⟩ [("script", v)]) ∧ ∀ base : Heap, K.In base → base.Ns mainGlobals mg → FnOk l.prog w K mg base (L2N.CX l.prog w) 15 fa fd ["script"] (spM K mg 1 Mi.m_law_31) := by
  have e := hfa.symm.trans (PySem.W.mg_of X G a0)
  cases e
  have T : Txt w K mg := ⟨has_of X G a1 l1 c1 k1 fun _ _ _ _ _ _ us hl => match us, hl with | [_, _], _ => rfl, has_of X G a2 l2 c2 k2 fun _ _ _ _ _ _ us hl => match us, hl with | [_, _, _], _ => rfl, has_of X G a3 l3 c3 k3 fun _ _ _ _ _ _ us hl => match us, hl with | [_, _], _ => rfl, has_of X G a4 l4 c4 k4 fun _ _ _ _ _ _ us hl => match us, hl with | [_, _], _ => rfl, has_of X G a5 l5 c5 k5 fun _ _ _ _ _ _ us hl => match us, hl with | [_, _, _, _, _, _], _ => rfl, has_of X G a6 l6 c6 k6 fun _ _ _ _ _ _ us hl => match us, hl with | [_, _], _ => rfl, has_of X G a7 l7 c7 k7 fun _ _ _ _ _ _ us hl => match us, hl with | [_, _], _ => rfl, has_of X G a8 l8 c8 k8 fun _ _ _ _ _ _ us hl => match us, hl with | [_, _, _, _, _], _ => rfl, PySem.W.mg_none_of X G z_abs, PySem.W.mg_none_of X G z_bool, PySem.W.mg_none_of X G z_int, PySem.W.mg_none_of X G z_isinstance, PySem.W.mg_none_of X G z_len, PySem.W.mg_none_of X G z_range, PySem.W.mg_none_of X G z_str, PySem.W.mg_none_of X G z_tuple, ⟨_, PySem.W.mg_of X G q_MOST_HOUSES⟩, ⟨_, PySem.W.mg_of X G cn_RosterProblem, ⟨ic_RosterProblem, ga_RosterProblem, gt_RosterProblem, sb_RosterProblem, gc_RosterProblem, spc, tkc, mr_RosterProblem⟩⟩, ⟨_, PySem.W.mg_of X G cn_RosterProblem, (fun c m cv hcv => by
      simp only [List.mem_cons, List.not_mem_nil, or_false] at m
      rcases m with rfl
      · cases hcv.symm.trans (PySem.W.mg_of X G cn_RosterProblem)
        exact PySem.W.exm_ref sb_RosterProblem hd_RosterProblem ty_RosterProblem su_RosterProblem_RosterProblem
), (fun _ m => nomatch m)⟩, fun hC => by cases hC.symm.trans (PySem.W.mg_of X G cn_RosterProblem); exact ⟨ga_RosterProblem, gt_RosterProblem, sb_RosterProblem, hd_RosterProblem⟩, fun hC => by cases hC.symm.trans (PySem.W.mg_of X G cn_RosterProblem); exact nf_RosterProblem_reason, ⟨_, _, _, PySem.W.mg_of X G cn_RosterProblem, ⟨⟨_, _, _, _, _, _, _, _, _, _, _, _, _, _, _, xl_RosterProblem, xr_RosterProblem⟩, sa_RosterProblem, sb_RosterProblem, ty_RosterProblem, kp_RosterProblem⟩, in_RosterProblem, it_RosterProblem, fun_mk (st := si_RosterProblem) il_RosterProblem ik_RosterProblem ikp_RosterProblem, (fun_mk (st := si_RosterProblem) il_RosterProblem ik_RosterProblem ikp_RosterProblem).binds (fun _ _ _ _ _ _ us hl => match us, hl with | [_, _], _ => rfl), fun f m => by
      simp only [List.mem_cons, List.not_mem_nil, or_false] at m
      rcases m with rfl
      · exact nf_RosterProblem_reason
⟩, ⟨_, _, _, cn_Roster, PySem.W.mg_of X G cn_Roster, ⟨mk_Roster, ma_Roster_init, mi_Roster_init, kc_Roster⟩, fun_mk (st := s_Roster_init) ml_Roster_init mcd_Roster_init mkp_Roster_init, (fun_mk (st := s_Roster_init) ml_Roster_init mcd_Roster_init mkp_Roster_init).binds (fun _ _ _ _ _ _ us hl => match us, hl with | [_, _], _ => rfl)⟩, ⟨_, _, _, cn_Roster, ⟨pg_Roster, hd_Roster, po_Roster, sas_Roster⟩, ⟨ma_Roster_add, mi_Roster_add, mkp_Roster_add⟩, fun_mk (st := s_Roster_add) ml_Roster_add mcd_Roster_add mkp_Roster_add, (fun_mk (st := s_Roster_add) ml_Roster_add mcd_Roster_add mkp_Roster_add).binds (fun _ _ _ _ _ _ us hl => match us, hl with | [_, _], _ => rfl)⟩, ⟨_, _, _, cn_Roster, ⟨pg_Roster, hd_Roster, po_Roster, sas_Roster⟩, ⟨ma_Roster_sign, mi_Roster_sign, mkp_Roster_sign⟩, fun_mk (st := s_Roster_sign) ml_Roster_sign mcd_Roster_sign mkp_Roster_sign, (fun_mk (st := s_Roster_sign) ml_Roster_sign mcd_Roster_sign mkp_Roster_sign).binds (fun _ _ _ _ _ _ us hl => match us, hl with | [_, _, _], _ => rfl)⟩, ⟨_, _, _, cn_Roster, ⟨pg_Roster, hd_Roster, po_Roster, sas_Roster⟩, ⟨ma_Roster_revoke, mi_Roster_revoke, mkp_Roster_revoke⟩, fun_mk (st := s_Roster_revoke) ml_Roster_revoke mcd_Roster_revoke mkp_Roster_revoke, (fun_mk (st := s_Roster_revoke) ml_Roster_revoke mcd_Roster_revoke mkp_Roster_revoke).binds (fun _ _ _ _ _ _ us hl => match us, hl with | [_, _], _ => rfl)⟩, ⟨_, _, _, cn_Roster, ⟨pg_Roster, hd_Roster, po_Roster, sas_Roster⟩, ⟨ma_Roster_is_revoked, mi_Roster_is_revoked, mkp_Roster_is_revoked⟩, fun_mk (st := s_Roster_is_revoked) ml_Roster_is_revoked mcd_Roster_is_revoked mkp_Roster_is_revoked, (fun_mk (st := s_Roster_is_revoked) ml_Roster_is_revoked mcd_Roster_is_revoked mkp_Roster_is_revoked).binds (fun _ _ _ _ _ _ us hl => match us, hl with | [_, _], _ => rfl)⟩, ⟨_, _, _, cn_Roster, ⟨pg_Roster, hd_Roster, po_Roster, sas_Roster⟩, ⟨ma_Roster_counts, mi_Roster_counts, mkp_Roster_counts⟩, fun_mk (st := s_Roster_counts) ml_Roster_counts mcd_Roster_counts mkp_Roster_counts, (fun_mk (st := s_Roster_counts) ml_Roster_counts mcd_Roster_counts mkp_Roster_counts).binds (fun _ _ _ _ _ _ us hl => match us, hl with | [_, _, _, _], _ => rfl)⟩, ⟨_, _, _, cn_Roster, ⟨pg_Roster, hd_Roster, po_Roster, sas_Roster⟩, ⟨ma_Roster_tell, mi_Roster_tell, mkp_Roster_tell⟩, fun_mk (st := s_Roster_tell) ml_Roster_tell mcd_Roster_tell mkp_Roster_tell, (fun_mk (st := s_Roster_tell) ml_Roster_tell mcd_Roster_tell mkp_Roster_tell).binds (fun _ _ _ _ _ _ us hl => match us, hl with | [_, _, _, _, _], _ => rfl)⟩, ⟨_, _, _, cn_Roster, ⟨pg_Roster, hd_Roster, po_Roster, sas_Roster⟩, ⟨ma_Roster_claim_of, mi_Roster_claim_of, mkp_Roster_claim_of⟩, fun_mk (st := s_Roster_claim_of) ml_Roster_claim_of mcd_Roster_claim_of mkp_Roster_claim_of, (fun_mk (st := s_Roster_claim_of) ml_Roster_claim_of mcd_Roster_claim_of mkp_Roster_claim_of).binds (fun _ _ _ _ _ _ us hl => match us, hl with | [_, _], _ => rfl)⟩, ⟨_, _, _, cn_Roster, ⟨pg_Roster, hd_Roster, po_Roster, sas_Roster⟩, ⟨ma_Roster_has_voice, mi_Roster_has_voice, mkp_Roster_has_voice⟩, fun_mk (st := s_Roster_has_voice) ml_Roster_has_voice mcd_Roster_has_voice mkp_Roster_has_voice, (fun_mk (st := s_Roster_has_voice) ml_Roster_has_voice mcd_Roster_has_voice mkp_Roster_has_voice).binds (fun _ _ _ _ _ _ us hl => match us, hl with | [_, _, _], _ => rfl)⟩, ⟨_, _, _, cn_Roster, ⟨pg_Roster, hd_Roster, po_Roster, sas_Roster⟩, ⟨ma_Roster_vouchers, mi_Roster_vouchers, mkp_Roster_vouchers⟩, fun_mk (st := s_Roster_vouchers) ml_Roster_vouchers mcd_Roster_vouchers mkp_Roster_vouchers, (fun_mk (st := s_Roster_vouchers) ml_Roster_vouchers mcd_Roster_vouchers mkp_Roster_vouchers).binds (fun _ _ _ _ _ _ us hl => match us, hl with | [_, _], _ => rfl)⟩, ⟨_, _, _, cn_Roster, ⟨pg_Roster, hd_Roster, po_Roster, sas_Roster⟩, ⟨ma_Roster_strikes, mi_Roster_strikes, mkp_Roster_strikes⟩, fun_mk (st := s_Roster_strikes) ml_Roster_strikes mcd_Roster_strikes mkp_Roster_strikes, (fun_mk (st := s_Roster_strikes) ml_Roster_strikes mcd_Roster_strikes mkp_Roster_strikes).binds (fun _ _ _ _ _ _ us hl => match us, hl with | [_, _], _ => rfl)⟩, ⟨_, _, _, cn_Roster, ⟨pg_Roster, hd_Roster, po_Roster, sas_Roster⟩, ⟨ma_Roster__check, mi_Roster__check, mkp_Roster__check⟩, fun_mk (st := s_Roster__check) ml_Roster__check mcd_Roster__check mkp_Roster__check, (fun_mk (st := s_Roster__check) ml_Roster__check mcd_Roster__check mkp_Roster__check).binds (fun _ _ _ _ _ _ us hl => match us, hl with | [_, _], _ => rfl)⟩, ⟨_, _, _, cn_Roster, ⟨pg_Roster, hd_Roster, po_Roster, sas_Roster⟩, ⟨ma_Roster__tell_again, mi_Roster__tell_again, mkp_Roster__tell_again⟩, fun_mk (st := s_Roster__tell_again) ml_Roster__tell_again mcd_Roster__tell_again mkp_Roster__tell_again, (fun_mk (st := s_Roster__tell_again) ml_Roster__tell_again mcd_Roster__tell_again mkp_Roster__tell_again).binds (fun _ _ _ _ _ _ us hl => match us, hl with | [_, _, _, _], _ => rfl)⟩, ⟨_, _, _, cn_Roster, ⟨pg_Roster, hd_Roster, po_Roster, sas_Roster⟩, ⟨ma_Roster__supporters, mi_Roster__supporters, mkp_Roster__supporters⟩, fun_mk (st := s_Roster__supporters) ml_Roster__supporters mcd_Roster__supporters mkp_Roster__supporters, (fun_mk (st := s_Roster__supporters) ml_Roster__supporters mcd_Roster__supporters mkp_Roster__supporters).binds (fun _ _ _ _ _ _ us hl => match us, hl with | [_, _, _], _ => rfl)⟩, ⟨_, _, _, cn_Roster, ⟨pg_Roster, hd_Roster, po_Roster, sas_Roster⟩, ⟨ma_Roster__settle, mi_Roster__settle, mkp_Roster__settle⟩, fun_mk (st := s_Roster__settle) ml_Roster__settle mcd_Roster__settle mkp_Roster__settle, (fun_mk (st := s_Roster__settle) ml_Roster__settle mcd_Roster__settle mkp_Roster__settle).binds (fun _ _ _ _ _ _ us hl => match us, hl with | [_, _, _], _ => rfl)⟩, hasA_of cn_Roster ⟨pg_Roster, hd_Roster, po_Roster, sas_Roster⟩ na_Roster__claims, hasA_of cn_Roster ⟨pg_Roster, hd_Roster, po_Roster, sas_Roster⟩ na_Roster__houses, hasA_of cn_Roster ⟨pg_Roster, hd_Roster, po_Roster, sas_Roster⟩ na_Roster__signed, hasA_of cn_Roster ⟨pg_Roster, hd_Roster, po_Roster, sas_Roster⟩ na_Roster__strikes, hasA_of cn_Roster ⟨pg_Roster, hd_Roster, po_Roster, sas_Roster⟩ na_Roster__voices, hasA_of cn_Roster ⟨pg_Roster, hd_Roster, po_Roster, sas_Roster⟩ na_Roster_need⟩
  exact ⟨PySem.W.fnOf "law" "law" (defArgs s_law) (defBody s_law) (defScope s_law) .none kV0 dc0 pm0 an0 cd0 ct0, fun s v => .of_eq rfl, fun base _ _ => okfn_law T (fun_mk (st := s_law) l0 c0 k0)⟩
end
end
end L32

theorem L32.main : ∀ ns : List Int, ns.length ≤ 63 → ∃ h, Mi.m_law_31 [Vi.D.klst (ns.map Vi.D.int)] [] = Vi.Rs.ok (Vi.D.bl true) h := Vi.k32_main
open PySem PySem.W PyProof.Rows in
set_option maxRecDepth 100000 in
set_option maxHeartbeats 0 in
theorem PySem.Challenge.cw_truemill_k32_voices_holds : PySem.Challenge.rw_truemill_k32_voices.Holds := by
  w_on; o_law; k_head; (case hw => w_witness2)
  k_fill
  refine Vi.law_walk (l := PySem.Challenge.rw_truemill_k32_voices) (k := 15) (m := Mi.m_law_31) (x := "script") rfl rfl ⟨rfl, by decide, by decide⟩ (fun w h Y => PySem.W.kIn_of Y) ?ff ?mm
  case mm => exact L32.main
  case ff =>
    intro _ w mg fa h KX G hmg
    refine' L32.end_ KX G hmg ?a0 ?l0 ?c0 ?k0 ?a1 ?l1 ?c1 ?k1 ?a2 ?l2 ?c2 ?k2 ?a3 ?l3 ?c3 ?k3 ?a4 ?l4 ?c4 ?k4 ?a5 ?l5 ?c5 ?k5 ?a6 ?l6 ?c6 ?k6 ?a7 ?l7 ?c7 ?k7 ?a8 ?l8 ?c8 ?k8 ?z_abs ?z_bool ?z_int ?z_isinstance ?z_len ?z_range ?z_str ?z_tuple ?q_MOST_HOUSES ?cn_RosterProblem ?ic_RosterProblem ?ga_RosterProblem ?gt_RosterProblem ?sb_RosterProblem ?gc_RosterProblem ?spc ?tkc ?mr_RosterProblem ?hd_RosterProblem ?ty_RosterProblem ?su_RosterProblem_RosterProblem ?nf_RosterProblem_reason ?xl_RosterProblem ?xr_RosterProblem ?sa_RosterProblem ?kp_RosterProblem ?in_RosterProblem ?it_RosterProblem ?il_RosterProblem ?ik_RosterProblem ?ikp_RosterProblem ?cn_Roster ?pg_Roster ?hd_Roster ?po_Roster ?sas_Roster ?ma_Roster_init ?mi_Roster_init ?ml_Roster_init ?mcd_Roster_init ?mkp_Roster_init ?mk_Roster ?kc_Roster ?ma_Roster_add ?mi_Roster_add ?ml_Roster_add ?mcd_Roster_add ?mkp_Roster_add ?ma_Roster_sign ?mi_Roster_sign ?ml_Roster_sign ?mcd_Roster_sign ?mkp_Roster_sign ?ma_Roster_revoke ?mi_Roster_revoke ?ml_Roster_revoke ?mcd_Roster_revoke ?mkp_Roster_revoke ?ma_Roster_is_revoked ?mi_Roster_is_revoked ?ml_Roster_is_revoked ?mcd_Roster_is_revoked ?mkp_Roster_is_revoked ?ma_Roster_counts ?mi_Roster_counts ?ml_Roster_counts ?mcd_Roster_counts ?mkp_Roster_counts ?ma_Roster_tell ?mi_Roster_tell ?ml_Roster_tell ?mcd_Roster_tell ?mkp_Roster_tell ?ma_Roster_claim_of ?mi_Roster_claim_of ?ml_Roster_claim_of ?mcd_Roster_claim_of ?mkp_Roster_claim_of ?ma_Roster_has_voice ?mi_Roster_has_voice ?ml_Roster_has_voice ?mcd_Roster_has_voice ?mkp_Roster_has_voice ?ma_Roster_vouchers ?mi_Roster_vouchers ?ml_Roster_vouchers ?mcd_Roster_vouchers ?mkp_Roster_vouchers ?ma_Roster_strikes ?mi_Roster_strikes ?ml_Roster_strikes ?mcd_Roster_strikes ?mkp_Roster_strikes ?ma_Roster__check ?mi_Roster__check ?ml_Roster__check ?mcd_Roster__check ?mkp_Roster__check ?ma_Roster__tell_again ?mi_Roster__tell_again ?ml_Roster__tell_again ?mcd_Roster__tell_again ?mkp_Roster__tell_again ?ma_Roster__supporters ?mi_Roster__supporters ?ml_Roster__supporters ?mcd_Roster__supporters ?mkp_Roster__supporters ?ma_Roster__settle ?mi_Roster__settle ?ml_Roster__settle ?mcd_Roster__settle ?mkp_Roster__settle ?na_Roster__claims ?na_Roster__houses ?na_Roster__signed ?na_Roster__strikes ?na_Roster__voices ?na_Roster_need
    (case a0 => k_is)
    (case l0 => k_is)
    (case c0 => k_is)
    (case k0 => k_is)
    (case a1 => k_is)
    (case l1 => k_is)
    (case c1 => k_is)
    (case k1 => k_is)
    (case a2 => k_is)
    (case l2 => k_is)
    (case c2 => k_is)
    (case k2 => k_is)
    (case a3 => k_is)
    (case l3 => k_is)
    (case c3 => k_is)
    (case k3 => k_is)
    (case a4 => k_is)
    (case l4 => k_is)
    (case c4 => k_is)
    (case k4 => k_is)
    (case a5 => k_is)
    (case l5 => k_is)
    (case c5 => k_is)
    (case k5 => k_is)
    (case a6 => k_is)
    (case l6 => k_is)
    (case c6 => k_is)
    (case k6 => k_is)
    (case a7 => k_is)
    (case l7 => k_is)
    (case c7 => k_is)
    (case k7 => k_is)
    (case a8 => k_is)
    (case l8 => k_is)
    (case c8 => k_is)
    (case k8 => k_is)
    (case z_abs => k_is)
    (case z_bool => k_is)
    (case z_int => k_is)
    (case z_isinstance => k_is)
    (case z_len => k_is)
    (case z_range => k_is)
    (case z_str => k_is)
    (case z_tuple => k_is)
    (case q_MOST_HOUSES => k_is)
    (case cn_RosterProblem => k_is)
    (case ic_RosterProblem => first | k_is | rfl | kernel_rfl | decide +kernel)
    (case ga_RosterProblem => first | k_is | rfl | kernel_rfl | decide +kernel)
    (case gt_RosterProblem => first | k_is | rfl | kernel_rfl | decide +kernel)
    (case sb_RosterProblem => first | k_is | rfl | kernel_rfl | decide +kernel)
    (case gc_RosterProblem => first | k_is | rfl | kernel_rfl | decide +kernel)
    (case spc => first | k_is | rfl | kernel_rfl | decide +kernel)
    (case tkc => first | k_is | rfl | kernel_rfl | decide +kernel)
    (case mr_RosterProblem => first | k_is | rfl | kernel_rfl | decide +kernel)
    (case hd_RosterProblem => first | k_is | rfl | kernel_rfl | decide +kernel)
    (case ty_RosterProblem => first | k_is | rfl | kernel_rfl | decide +kernel)
    (case su_RosterProblem_RosterProblem => first | k_is | rfl | kernel_rfl | decide +kernel)
    (case nf_RosterProblem_reason => first | k_is | rfl | kernel_rfl | decide +kernel)
    (case xl_RosterProblem => k_is)
    (case xr_RosterProblem => first | rfl | decide +kernel | kernel_rfl)
    (case sa_RosterProblem => first | k_is | rfl | kernel_rfl | decide +kernel)
    (case kp_RosterProblem => first | k_is | rfl | kernel_rfl | decide +kernel)
    (case in_RosterProblem => k_is)
    (case it_RosterProblem => k_is)
    (case il_RosterProblem => k_is)
    (case ik_RosterProblem => k_is)
    (case ikp_RosterProblem => first | k_is | rfl | kernel_rfl | decide +kernel)
    (case cn_Roster => k_is)
    (case pg_Roster => k_is)
    (case hd_Roster => k_is)
    (case po_Roster => k_is)
    (case sas_Roster => k_is)
    (case ma_Roster_init => k_is)
    (case mi_Roster_init => k_is)
    (case ml_Roster_init => k_is)
    (case mcd_Roster_init => k_is)
    (case mkp_Roster_init => k_is)
    (case mk_Roster => k_is)
    (case kc_Roster => k_is)
    (case ma_Roster_add => k_is)
    (case mi_Roster_add => k_is)
    (case ml_Roster_add => k_is)
    (case mcd_Roster_add => k_is)
    (case mkp_Roster_add => k_is)
    (case ma_Roster_sign => k_is)
    (case mi_Roster_sign => k_is)
    (case ml_Roster_sign => k_is)
    (case mcd_Roster_sign => k_is)
    (case mkp_Roster_sign => k_is)
    (case ma_Roster_revoke => k_is)
    (case mi_Roster_revoke => k_is)
    (case ml_Roster_revoke => k_is)
    (case mcd_Roster_revoke => k_is)
    (case mkp_Roster_revoke => k_is)
    (case ma_Roster_is_revoked => k_is)
    (case mi_Roster_is_revoked => k_is)
    (case ml_Roster_is_revoked => k_is)
    (case mcd_Roster_is_revoked => k_is)
    (case mkp_Roster_is_revoked => k_is)
    (case ma_Roster_counts => k_is)
    (case mi_Roster_counts => k_is)
    (case ml_Roster_counts => k_is)
    (case mcd_Roster_counts => k_is)
    (case mkp_Roster_counts => k_is)
    (case ma_Roster_tell => k_is)
    (case mi_Roster_tell => k_is)
    (case ml_Roster_tell => k_is)
    (case mcd_Roster_tell => k_is)
    (case mkp_Roster_tell => k_is)
    (case ma_Roster_claim_of => k_is)
    (case mi_Roster_claim_of => k_is)
    (case ml_Roster_claim_of => k_is)
    (case mcd_Roster_claim_of => k_is)
    (case mkp_Roster_claim_of => k_is)
    (case ma_Roster_has_voice => k_is)
    (case mi_Roster_has_voice => k_is)
    (case ml_Roster_has_voice => k_is)
    (case mcd_Roster_has_voice => k_is)
    (case mkp_Roster_has_voice => k_is)
    (case ma_Roster_vouchers => k_is)
    (case mi_Roster_vouchers => k_is)
    (case ml_Roster_vouchers => k_is)
    (case mcd_Roster_vouchers => k_is)
    (case mkp_Roster_vouchers => k_is)
    (case ma_Roster_strikes => k_is)
    (case mi_Roster_strikes => k_is)
    (case ml_Roster_strikes => k_is)
    (case mcd_Roster_strikes => k_is)
    (case mkp_Roster_strikes => k_is)
    (case ma_Roster__check => k_is)
    (case mi_Roster__check => k_is)
    (case ml_Roster__check => k_is)
    (case mcd_Roster__check => k_is)
    (case mkp_Roster__check => k_is)
    (case ma_Roster__tell_again => k_is)
    (case mi_Roster__tell_again => k_is)
    (case ml_Roster__tell_again => k_is)
    (case mcd_Roster__tell_again => k_is)
    (case mkp_Roster__tell_again => k_is)
    (case ma_Roster__supporters => k_is)
    (case mi_Roster__supporters => k_is)
    (case ml_Roster__supporters => k_is)
    (case mcd_Roster__supporters => k_is)
    (case mkp_Roster__supporters => k_is)
    (case ma_Roster__settle => k_is)
    (case mi_Roster__settle => k_is)
    (case ml_Roster__settle => k_is)
    (case mcd_Roster__settle => k_is)
    (case mkp_Roster__settle => k_is)
    (case na_Roster__claims => k_is)
    (case na_Roster__houses => k_is)
    (case na_Roster__signed => k_is)
    (case na_Roster__strikes => k_is)
    (case na_Roster__voices => k_is)
    (case na_Roster_need => k_is)
